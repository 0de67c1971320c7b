import PyProof.Rows.All
import Wide.All
import OpenK.AllK
import Wide.FinOn
import PySem.Challenge.RW_steadybodies_k47_free_flights
import HandS.ForMost
import HandS.ForExc
import HandS.Wide
import HandS.Gcd
import HandS.IsInst
import HandS.ExcIs
import HandS.Deep
import HandS.Zip
import KE.GoesNew
import HandS.GenList
import KE.KDictZip
import KE.KTurns
import HandS.EndTab
import HandS.AnyAll
import HandS.HotCalls
import HandS.TupAny
import HandS.TupMul
import HandS.DictComp
import HandS.SortRule
import HandS.Sort
import KE.KDictPairs
import KE.KEqDict
import HandS.DictTup
import HandS.TryOnly
import HandS.Lambda
import KE.SortKeyHeap
import HandS.ForMost
import HandS.ForExc
import HandS.Wide
import HandS.Gcd
import HandS.Iter
import HandS.Walk
import HandS.Style
import HandS.More
set_option Elab.async false
set_option linter.all false
set_option maxRecDepth 100000
set_option maxHeartbeats 4000000
set_option exponentiation.threshold 10000
/-! A layer over the hand layer: big steps over data. -/
namespace PL
open PySem PySem.Spec PyProof.Rows L2
/-- the names of the lambdas that tables of code objects tell of -/
class Nm where
  nm : Addr → Str
/-- tables of code objects: of generators, of lambdas -/
structure Tbs where
  gs : List Addr
  ls : List Addr
/-- a value as data, or the address of an object that may change -/
inductive Dat where
  | d (x : PyData)
  | r (a : Addr)
  | l (ds : List PyData)
  | k (kvs : List (Key × PyData))
  | u (xs : List PyData)
  | p (φ : Hp → V → Prop)
abbrev Dat.i (n : Int) : Dat := .d (.int n)
abbrev Dat.b (b : Bool) : Dat := .d (.bool b)
abbrev Dat.t (xs : List PyData) : Dat := .d (.tuple xs)
/-- o stands where it stood; a code object's table may have grown -/
def Kpt (o : HO) (x : Option HO) : Prop := match o with
  | .tbl ps => ∃ qs : Array Value, x = some (.tbl qs) ∧ (TriplesOk ps.toList → TriplesOk qs.toList)
  | o => x = some o
theorem Kpt.of {o : HO} {x : Option HO} (h : x = some o) : Kpt o x := by
  cases o with
  | tbl ps => exact ⟨ps, h, id⟩
  | _ => exact h
theorem Kpt.some {o : HO} {x : Option HO} (h : Kpt o x) : ∃ u, x = some u ∧ ((∀ ps, o ≠ .tbl ps) → u = o) := by
  cases o with
  | tbl ps =>
    obtain ⟨qs, e, _⟩ := h
    exact ⟨_, e, fun z => (z ps rfl).elim⟩
  | _ => exact ⟨_, h, fun _ => rfl⟩
theorem Kpt.trans {o : HO} {x y : Option HO} (h : Kpt o x) (g : ∀ u, x = Option.some u → Kpt u y) : Kpt o y := by
  cases o with
  | tbl ps =>
    obtain ⟨qs, e, t⟩ := h
    obtain ⟨rs, e2, t2⟩ := g _ e
    exact ⟨rs, e2, fun z => t2 (t z)⟩
  | _ => exact g _ h
def Same (H H' : Hp) : Prop := ∀ b o, H b = some o → Kpt o (H' b)
theorem Same.refl (H : Hp) : Same H H := fun _ _ h => .of h
theorem Same.trans {H H1 H2 : Hp} (a : Same H H1) (b : Same H1 H2) : Same H H2 := fun c o h => (a c o h).trans fun u e => b c u e
theorem Same.free {H H' : Hp} (e : Same H H') {l : Addr} (h : H' l = none) : H l = none := by
  cases z : H l with
  | none => rfl
  | some o =>
    obtain ⟨u, hu, _⟩ := (e l o z).some
    rw [h] at hu
    cases hu
theorem Same.seq {K : PySem.W.Frag} {H H' : Hp} {a : Addr} {xs : List V} (e : Same H H') (h : SqL K H a xs) : SqL K H' a xs := by
  rcases h with (h | ⟨o, h⟩) | h
  · exact .inl (.inl (e _ _ h))
  · exact .inl (.inr ⟨o, e _ _ h⟩)
  · exact .inr h
section
variable {K : PySem.W.Frag} {G H G1 H1 G2 H2 H' : Hp}
theorem same_new {p : Addr} {o : HO} (h : H p = none) : Same H (upd H p o) := fun a u e => by
  rw [upd_ne (ne_of_none e h)]
  exact .of e
theorem same_t {a : Addr} {xs : List V} (e : Same H H') (h : SqT K H a xs) : SqT K H' a xs := by
  rcases h with (h | ⟨o, h⟩) | h
  · exact .inl (.inl (e _ _ h))
  · exact .inl (.inr ⟨o, e _ _ h⟩)
  · exact .inr h
mutual
theorem dp_mono (e : Same H H') : ∀ (d : PyData) (v : V), Dp K H v d → Dp K H' v d
  | .none, _, h => by cases h; exact .non
  | .bool b, _, h => by cases h; exact .bl b
  | .int i, _, h => by cases h; exact .int i
  | .str x, _, h => by cases h; exact .str x
  | .list ds, _, h => by
    cases h with
    | lst a b => exact .lst (e.seq a) (dp_monos e ds _ b)
  | .tuple ds, _, h => by
    cases h with
    | tup a b => exact .tup (same_t e a) (dp_monos e ds _ b)
  | .dict _, _, h => by cases h
theorem dp_monos (e : Same H H') : ∀ (ds : List PyData) (vs : List V), DpAll K H vs ds → DpAll K H' vs ds
  | [], _, h => by cases h; exact .nil
  | d :: ds, _, h => by
    cases h with
    | cons a b => exact .cons (dp_mono e d _ a) (dp_monos e ds _ b)
end
theorem dpa_get : ∀ {vs : List V} {ds : List PyData} {i : Nat} {d : PyData}, DpAll K G vs ds → ds[i]? = some d → ∃ v, vs[i]? = some v ∧ Dp K G v d
  | _, _, _, _, .nil, e => by simp at e
  | _, _, 0, _, .cons a _, e => by
    simp at e
    subst e
    exact ⟨_, rfl, a⟩
  | _, _, i + 1, d, .cons _ b, e => by
    obtain ⟨v, h1, h2⟩ := dpa_get (i := i) (d := d) b (by simpa using e)
    exact ⟨v, by simpa using h1, h2⟩
theorem dpa_len : ∀ {vs : List V} {ds : List PyData}, DpAll K G vs ds → vs.length = ds.length
  | _, _, .nil => rfl
  | _, _, .cons _ b => by
    rw [List.length_cons, List.length_cons, dpa_len b]
theorem dpa_ints : ∀ (ns : List Int), DpAll K G (ns.map V.int) (ns.map PyData.int)
  | [] => .nil
  | n :: ns => .cons (.int n) (dpa_ints ns)
theorem dpa_app : ∀ {vs ws : List V} {ds es : List PyData}, DpAll K G vs ds → DpAll K G ws es → DpAll K G (vs ++ ws) (ds ++ es)
  | _, _, _, _, .nil, h => h
  | _, _, _, _, .cons a b, h => .cons a (dpa_app b h)
/-- a dict's items as data -/
def KvAll (K : PySem.W.Frag) (G : Hp) (vs : List (Key × V)) (kvs : List (Key × PyData)) : Prop := vs.map (·.1) = kvs.map (·.1) ∧ DpAll K G (vs.map (·.2)) (kvs.map (·.2))
def Dv (K : PySem.W.Frag) (G : Hp) (v : V) : Dat → Prop
  | .d x => Dp K G v x
  | .r a => v = .ref a
  | .l ds => ∃ a vs, v = .ref a ∧ G a = some (.lst vs) ∧ DpAll K G vs ds
  | .k kvs => ∃ a vs, v = .ref a ∧ G a = some (.dK vs) ∧ KvAll K G vs kvs
  | .u xs => ∃ a o vs, v = .ref a ∧ G a = some (.frz o (.tup vs)) ∧ o.dict = none ∧ DpAll K G vs xs
  | .p φ => ∃ G0, Same G0 G ∧ φ G0 v
theorem dv_mono {v : V} {d : Dat} (e : Same H H') (h : Dv K H v d) : Dv K H' v d := by
  cases d with
  | d x => exact dp_mono e x v h
  | r a => exact h
  | l ds =>
    obtain ⟨a, vs, h1, h2, h3⟩ := h
    exact ⟨a, vs, h1, e _ _ h2, dp_monos e ds vs h3⟩
  | k kvs =>
    obtain ⟨a, vs, h1, h2, h3⟩ := h
    exact ⟨a, vs, h1, e _ _ h2, h3.1, dp_monos e _ _ h3.2⟩
  | u xs =>
    obtain ⟨a, o, vs, h1, h2, h3, h4⟩ := h
    exact ⟨a, o, vs, h1, e _ _ h2, h3, dp_monos e _ _ h4⟩
  | p φ =>
    obtain ⟨G0, h1, h2⟩ := h
    exact ⟨G0, h1.trans e, h2⟩
def DvAll (K : PySem.W.Frag) (G : Hp) : List V → List Dat → Prop
  | [], [] => True
  | v :: vs, d :: ds => Dv K G v d ∧ DvAll K G vs ds
  | [], _ :: _ => False
  | _ :: _, [] => False
theorem dva_mono (e : Same H H') : ∀ {vs : List V} {ds : List Dat}, DvAll K H vs ds → DvAll K H' vs ds
  | [], [], _ => trivial
  | _ :: _, _ :: _, h => ⟨dv_mono e h.1, dva_mono e h.2⟩
  | [], _ :: _, h => h.elim
  | _ :: _, [], h => h.elim
theorem dva_len : ∀ {vs : List V} {ds : List Dat}, DvAll K H vs ds → vs.length = ds.length
  | [], [], _ => rfl
  | _ :: vs, _ :: ds, h => by
    rw [List.length_cons, List.length_cons, dva_len h.2]
  | [], _ :: _, h => h.elim
  | _ :: _, [], h => h.elim
theorem dva_dp : ∀ {vs : List V} {ds : List PyData}, DvAll K H vs (ds.map Dat.d) → DpAll K H vs ds
  | [], [], _ => .nil
  | _ :: _, _ :: _, h => .cons h.1 (dva_dp h.2)
  | [], _ :: _, h => h.elim
  | _ :: _, [], h => h.elim
def SlD (K : PySem.W.Frag) (G : Hp) (s : Option V) : Option Dat → Prop
  | none => True
  | some d => ∃ v, s = some v ∧ Dv K G v d
theorem sld_mono {s : Option V} {o : Option Dat} (e : Same H H') (h : SlD K H s o) : SlD K H' s o := by
  cases o with
  | none => trivial
  | some d =>
    obtain ⟨v, h1, h2⟩ := h
    exact ⟨v, h1, dv_mono e h2⟩
abbrev Rho := List (Option Dat)
def EnvD (K : PySem.W.Frag) (G : Hp) : List (Option V) → Rho → Prop
  | [], [] => True
  | s :: σ, o :: ρ => SlD K G s o ∧ EnvD K G σ ρ
  | [], _ :: _ => False
  | _ :: _, [] => False
theorem env_mono (e : Same H H') : ∀ {σ : List (Option V)} {ρ : Rho}, EnvD K H σ ρ → EnvD K H' σ ρ
  | [], [], _ => trivial
  | _ :: _, _ :: _, h => ⟨sld_mono e h.1, env_mono e h.2⟩
  | [], _ :: _, h => h.elim
  | _ :: _, [], h => h.elim
theorem env_get : ∀ {σ : List (Option V)} {ρ : Rho} {i : Nat} {d : Dat}, EnvD K G σ ρ → ρ[i]? = some (some d) → ∃ v, σ[i]? = some (some v) ∧ Dv K G v d
  | [], [], _, _, _, e => by simp at e
  | _ :: _, _ :: _, 0, d, h, e => by
    simp at e
    subst e
    obtain ⟨v, h1, h2⟩ := h.1
    exact ⟨v, by simp [h1], h2⟩
  | _ :: σ, _ :: ρ, i + 1, d, h, e => by
    obtain ⟨v, h1, h2⟩ := env_get (i := i) (d := d) h.2 (by simpa using e)
    exact ⟨v, by simpa using h1, h2⟩
  | [], _ :: _, _, _, h, _ => h.elim
  | _ :: _, [], _, _, h, _ => h.elim
theorem env_set {v : V} {d : Dat} (hv : Dv K G v d) : ∀ {σ : List (Option V)} {ρ : Rho} {i : Nat}, EnvD K G σ ρ → EnvD K G (σ.set i (some v)) (ρ.set i (some d))
  | [], [], _, _ => trivial
  | _ :: _, _ :: _, 0, h => ⟨⟨v, rfl, hv⟩, h.2⟩
  | _ :: σ, _ :: ρ, i + 1, h => ⟨h.1, env_set hv (i := i) h.2⟩
  | [], _ :: _, _, h => h.elim
  | _ :: _, [], _, h => h.elim
/-- less is known -/
def Less : Rho → Rho → Prop
  | [], [] => True
  | a :: ρ, b :: ρ' => (b = none ∨ a = b) ∧ Less ρ ρ'
  | [], _ :: _ => False
  | _ :: _, [] => False
theorem env_less : ∀ {σ : List (Option V)} {ρ ρ' : Rho}, Less ρ ρ' → EnvD K G σ ρ → EnvD K G σ ρ'
  | [], [], [], _, _ => trivial
  | _ :: _, _ :: _, _ :: _, l, h => ⟨by
      rcases l.1 with e | e
      · rw [e]; trivial
      · rw [← e]; exact h.1, env_less l.2 h.2⟩
  | _, [], _ :: _, l, _ => l.elim
  | _, _ :: _, [], l, _ => l.elim
  | [], _ :: _, _, _, h => h.elim
  | _ :: _, [], _, _, h => h.elim
theorem env_nones : ∀ (n : Nat), EnvD K G (List.replicate n none) (List.replicate n none)
  | 0 => trivial
  | n + 1 => ⟨trivial, env_nones n⟩
theorem env_start : ∀ {vs : List V} {ds : List Dat} (n : Nat), DvAll K G vs ds → EnvD K G (vs.map some ++ List.replicate n none) (ds.map some ++ List.replicate n none)
  | [], [], n, _ => env_nones n
  | v :: _, _ :: _, n, h => ⟨⟨v, rfl, h.1⟩, env_start n h.2⟩
  | [], _ :: _, _, h => h.elim
  | _ :: _, [], _, h => h.elim
/-! ### steps of the heap; what is said of it -/
variable [Nm]
/-- the table at P tells lambdas of its name alone, and is told of to nobody -/
def LamT (G H : Hp) (P : Addr) : Prop := G P = none ∧ LamX.TabS H P (Nm.nm P)
/-- all that the table leans on stays -/
theorem LamT.keep {G G' H H' : Hp} {P : Addr} (t : LamT G H P) (g : G P = none → G' P = none) (h : ∀ b o, H b = some o → (∀ ps, o ≠ .tbl ps ∨ b = P) → ((∃ ps, o = .tbl ps) ∨ ∃ q, o = LamX.CodeO b q) → H' b = some o) : LamT G' H' P := by
  obtain ⟨t0, ps, t1, t2, t3⟩ := t
  refine ⟨g t0, ps, h P _ t1 (fun _ => .inr rfl) (.inl ⟨ps, rfl⟩), t2, fun pos cv hc => ?_⟩
  obtain ⟨c, e1, e2⟩ := t3 pos cv hc
  exact ⟨c, e1, h c _ e2 (fun ps' => .inl (LamX.codeO_ne ps')) (.inr ⟨_, rfl⟩)⟩
theorem LamT.some {G H : Hp} {P : Addr} (t : LamT G H P) : ∃ ps, H P = Option.some (HO.tbl ps) := let ⟨_, ps, h, _⟩ := t; ⟨ps, h⟩
structure Stp (M : Addr → Prop) (G H G2 H2 : Hp) : Prop where
  gg : Same G G2
  gh : Same G2 H2
  hh : ∀ a o, ¬ M a → H a = some o → Kpt o (H2 a)
  fr : ∀ a o, ¬ M a → H a = some o → G a = none → G2 a = none
  ex : ∀ a o, H a = some o → ∃ u, H2 a = some u
  lt : ∀ P, LamT G H P → LamT G2 H2 P
abbrev NoA : Addr → Prop := fun _ => False
theorem Stp.refl {M : Addr → Prop} (h : Same G H) : Stp M G H G H := ⟨Same.refl _, h, fun _ _ _ e => .of e, fun _ _ _ _ e => e, fun _ o e => ⟨o, e⟩, fun _ t => t⟩
theorem Stp.trans {M : Addr → Prop} (a : Stp M G H G1 H1) (b : Stp M G1 H1 G2 H2) : Stp M G H G2 H2 :=
  ⟨a.gg.trans b.gg, b.gh, fun c o n e => (a.hh c o n e).trans fun u z => b.hh c u n z, fun c o m e n => by
    obtain ⟨u, hu⟩ := a.ex c o e
    exact b.fr c u m hu (a.fr c o m e n), fun c o e => by
    obtain ⟨u, hu⟩ := a.ex c o e
    exact b.ex c u hu, fun P t => b.lt P (a.lt P t)⟩
theorem Stp.wide {M M' : Addr → Prop} (h : ∀ a, M a → M' a) (a : Stp M G H G2 H2) : Stp M' G H G2 H2 :=
  ⟨a.gg, a.gh, fun c o n e => a.hh c o (fun z => n (h c z)) e, fun c o n => a.fr c o (fun z => n (h c z)), a.ex, a.lt⟩
/-- a new object that never changes -/
theorem Stp.new {p : Addr} {o : HO} (h : Same G H) (hp : H p = none) : Stp NoA G H (upd G p o) (upd H p o) := by
  have gp : G p = none := h.free hp
  refine ⟨same_new gp, fun a u e => ?_, fun a u _ e => ?_, fun a u _ e n => ?_, fun a u e => ?_, fun P t => ?_⟩
  · by_cases z : a = p
    · subst z
      rw [upd_same] at e ⊢
      exact .of e
    · rw [upd_ne z] at e ⊢
      exact h a u e
  · rw [upd_ne (ne_of_none e hp)]
    exact .of e
  · rw [upd_ne (ne_of_none e hp)]
    exact n
  · exact ⟨u, by rw [upd_ne (ne_of_none e hp)]; exact e⟩
  · obtain ⟨ps, hP⟩ := t.some
    exact t.keep (fun g => by rw [upd_ne (ne_of_none hP hp)]; exact g) fun b o e _ _ => by rw [upd_ne (ne_of_none e hp)]; exact e
/-- a new object that may change -/
theorem Stp.newM {p : Addr} {o : HO} (h : Same G H) (hp : H p = none) : Stp NoA G H G (upd H p o) :=
  ⟨Same.refl _, h.trans (same_new hp), fun a u _ e => by rw [upd_ne (ne_of_none e hp)]; exact .of e, fun _ _ _ _ n => n, fun a u e => ⟨u, by rw [upd_ne (ne_of_none e hp)]; exact e⟩, fun P t => t.keep (fun g => g) fun b o e _ _ => by rw [upd_ne (ne_of_none e hp)]; exact e⟩
/-- a store -/
theorem Stp.store {p : Addr} {o u : HO} (h : Same G H) (gp : G p = none) (hp : H p = some u) (nt : (∀ ps, u ≠ .tbl ps) ∧ ∀ q, u ≠ LamX.CodeO p q := by exact ⟨fun _ z => (by cases z), fun _ z => (by unfold LamX.CodeO at z; cases z)⟩) : Stp (· = p) G H G (upd H p o) :=
  ⟨Same.refl _, fun a x e => by
    rw [upd_ne (ne_of_none e gp)]
    exact h a x e, fun a x n e => by
    rw [upd_ne n]
    exact .of e, fun _ _ _ _ n => n, fun a x e => by
    by_cases z : a = p
    · subst z
      exact ⟨o, upd_same⟩
    · exact ⟨x, by rw [upd_ne z]; exact e⟩, fun P t => t.keep (fun g => g) fun b x e _ k => by
    have ne : b ≠ p := fun z => by
      rw [z, hp] at e
      rcases k with ⟨ps, k⟩ | ⟨f, k⟩
      · exact nt.1 ps ((Option.some.inj e).trans k)
      · exact nt.2 f ((Option.some.inj e).trans (by rw [k, z]))
    rw [upd_ne ne]
    exact e⟩
/-- a table grows -/
theorem Stp.tab {p : Addr} {ps qs : Array Value} (h : Same G H) (gp : G p ≠ none) (hp : H p = some (.tbl ps)) (t : TriplesOk ps.toList → TriplesOk qs.toList) : Stp NoA G H G (upd H p (.tbl qs)) := by
  have k : ∀ a x, H a = some x → Kpt x (upd H p (.tbl qs) a) := fun a x e => by
    by_cases z : a = p
    · subst z
      rw [hp] at e
      cases e
      exact ⟨qs, upd_same, t⟩
    · rw [upd_ne z]
      exact .of e
  exact ⟨Same.refl _, fun a x e => (h a x e).trans fun u z => k a u z, fun a x _ e => k a x e, fun _ _ _ _ n => n, fun a x e => let ⟨u, z, _⟩ := (k a x e).some; ⟨u, z⟩, fun P t => t.keep (fun g => g) fun b x e n _ => by
    have ne : b ≠ p := fun z => by
      rw [z, hp] at e
      rcases n ps with n | n
      · exact n (Option.some.inj e).symm
      · exact gp (by rw [← z, n]; exact t.1)
    rw [upd_ne ne]
    exact e⟩
/-- a lambda is made -/
theorem Stp.lam {P : Addr} {q : Str} (h : Same G H) (t : LamT G H P) (hq : Nm.nm P = q) (k : ∀ b o, b ≠ P → H b = some o → H2 b = some o) (t2 : LamX.TabS H2 P q) : Stp NoA G H G H2 := by
  obtain ⟨ps, hP, hT, _⟩ := t.2
  have t3 := t2
  obtain ⟨qs, hQ, hS, _⟩ := t2
  have nG : ∀ a o, G a = some o → a ≠ P := fun a o e z => by
    rw [z, t.1] at e
    cases e
  refine ⟨Same.refl _, fun a o e => (h a o e).trans fun u z => .of (k a u (nG a o e) z), fun a o _ e => ?_, fun _ _ _ _ n => n, fun a o e => ?_, fun Q tQ => ?_⟩
  · by_cases z : a = P
    · rw [z] at e ⊢
      rw [hP] at e
      cases e
      exact ⟨qs, hQ, fun _ => hS⟩
    · exact .of (k a o z e)
  · by_cases z : a = P
    · rw [z]
      exact ⟨_, hQ⟩
    · exact ⟨o, k a o z e⟩
  · by_cases z : Q = P
    · rw [z]
      refine ⟨t.1, ?_⟩
      rw [hq]
      exact t3
    · refine tQ.keep (fun g => g) fun b o e n _ => k b o (fun y => ?_) e
      rw [y, hP] at e
      rcases n ps with n | n
      · exact n (Option.some.inj e).symm
      · exact z (by rw [← n, y])
/-- the tables at these places are known -/
def TabsIn (T : Tbs) (G H : Hp) : Prop := (∀ p ∈ T.gs, ∃ ps : Array Value, G p = some (.tbl ps) ∧ TriplesOk ps.toList) ∧ ∀ P ∈ T.ls, LamT G H P
theorem TabsIn.go {M : Addr → Prop} {T : Tbs} (h : TabsIn T G H) (s : Stp M G H G2 H2) : TabsIn T G2 H2 := ⟨fun p hp => by
  obtain ⟨ps, e1, t⟩ := h.1 p hp
  obtain ⟨qs, e2, t2⟩ := s.gg p _ e1
  exact ⟨qs, e2, t2 t⟩, fun P hP => s.lt P (h.2 P hP)⟩
structure Asn where
  foot : Addr → Prop
  ok : Hp → Hp → Prop
  st : ∀ (M : Addr → Prop) (G H G2 H2 : Hp), (∀ a, foot a → ¬ M a) → Stp M G H G2 H2 → ok G H → ok G2 H2
  own : ∀ (G H : Hp) (a : Addr), ok G H → foot a → ∃ o, H a = some o
theorem Asn.pure_st {I : Asn} (s : Stp NoA G H G2 H2) (h : I.ok G H) : I.ok G2 H2 := I.st NoA G H G2 H2 (fun _ _ z => z) s h
def Asn.tt : Asn := ⟨NoA, fun _ _ => True, fun _ _ _ _ _ _ _ _ => trivial, fun _ _ _ _ z => z.elim⟩
def Asn.and (I J : Asn) : Asn := ⟨fun a => I.foot a ∨ J.foot a, fun G H => I.ok G H ∧ J.ok G H, fun M G H G2 H2 n s h => ⟨I.st M G H G2 H2 (fun a z => n a (.inl z)) s h.1, J.st M G H G2 H2 (fun a z => n a (.inr z)) s h.2⟩, fun G H a h z => z.elim (I.own G H a h.1) (J.own G H a h.2)⟩
/-- all that was, but M's, stands as it stood -/
def Asn.since (M : Addr → Prop) (G0 H0 : Hp) : Asn := ⟨fun a => ¬ M a ∧ ∃ o, H0 a = some o, fun G H => Stp M G0 H0 G H, fun M' G H G2 H2 n s h =>
  ⟨h.gg.trans s.gg, s.gh, fun a o m e => (h.hh a o m e).trans fun u z => s.hh a u (n a ⟨m, o, e⟩) z, fun a o m e g => by
    obtain ⟨u, hu⟩ := h.ex a o e
    exact s.fr a u (n a ⟨m, o, e⟩) hu (h.fr a o m e g), fun a o e => by
    obtain ⟨u, hu⟩ := h.ex a o e
    exact s.ex a u hu, fun P t => s.lt P (h.lt P t)⟩, fun G H a h ⟨_, o, e⟩ => h.ex a o e⟩
/-! ### judgements -/
def E (K : PySem.W.Frag) (te : TE) (ρ : Rho) (I : Asn) (d : Dat) (J : Asn) : Prop :=
  ∀ G H σ, Same G H → EnvD K G σ ρ → I.ok G H → ∀ Q : VK, (∀ v G2 H2, Same G G2 → Same G2 H2 → J.ok G2 H2 → Dv K G2 v d → Q v H2) → te σ H Q
def A (K : PySem.W.Frag) (ta : TA) (ρ : Rho) (I : Asn) (ds : List Dat) (J : Asn) : Prop :=
  ∀ G H σ, Same G H → EnvD K G σ ρ → I.ok G H → ∀ Q : List V → Hp → Prop, (∀ vs G2 H2, Same G G2 → Same G2 H2 → J.ok G2 H2 → DvAll K G2 vs ds → Q vs H2) → ta σ H Q
def T (K : PySem.W.Frag) (tt : TT) (ρ : Rho) (I : Asn) (b : Bool) (J : Asn) : Prop :=
  ∀ G H σ, Same G H → EnvD K G σ ρ → I.ok G H → ∀ Q : Bool → Hp → Prop, (∀ G2 H2, Same G G2 → Same G2 H2 → J.ok G2 H2 → Q b H2) → tt σ H Q
inductive Out where
  | nx (ρ : Rho) (J : Asn)
  | rt (d : Dat) (J : Asn)
  | bk (ρ : Rho) (J : Asn)
  | ct (ρ : Rho) (J : Asn)
  | fin (P : V → Hp → Hp → Prop)
  | ne (P : Rho → Asn → Prop)
def Fin (K : PySem.W.Frag) (D : Ends) (G : Hp) : Out → Prop
  | .nx ρ J => ∀ G2 H2 σ, Same G G2 → Same G2 H2 → EnvD K G2 σ ρ → J.ok G2 H2 → D.nx σ H2
  | .bk ρ J => ∀ G2 H2 σ, Same G G2 → Same G2 H2 → EnvD K G2 σ ρ → J.ok G2 H2 → D.bk σ H2
  | .ct ρ J => ∀ G2 H2 σ, Same G G2 → Same G2 H2 → EnvD K G2 σ ρ → J.ok G2 H2 → D.ct σ H2
  | .rt d J => ∀ v G2 H2, Same G G2 → Same G2 H2 → J.ok G2 H2 → Dv K G2 v d → D.rt v H2
  | .fin P => ∀ v G2 H2, Same G G2 → Same G2 H2 → P v G2 H2 → D.rt v H2
  | .ne P => ∀ ρ J, P ρ J → ∀ G2 H2 σ, Same G G2 → Same G2 H2 → EnvD K G2 σ ρ → J.ok G2 H2 → D.nx σ H2
theorem Fin.mono {D : Ends} {k : Out} (e : Same G G1) (h : Fin K D G k) : Fin K D G1 k := by
  cases k with
  | nx ρ J => exact fun G2 H2 σ a => h G2 H2 σ (e.trans a)
  | bk ρ J => exact fun G2 H2 σ a => h G2 H2 σ (e.trans a)
  | ct ρ J => exact fun G2 H2 σ a => h G2 H2 σ (e.trans a)
  | rt d J => exact fun v G2 H2 a => h v G2 H2 (e.trans a)
  | fin P => exact fun v G2 H2 a => h v G2 H2 (e.trans a)
  | ne P => exact fun ρ J p G2 H2 σ a => h ρ J p G2 H2 σ (e.trans a)
def S (K : PySem.W.Frag) (t : TS) (ρ : Rho) (I : Asn) (k : Out) : Prop :=
  ∀ G H σ (D : Ends), Same G H → EnvD K G σ ρ → I.ok G H → Fin K D G k → t D σ H
end
variable [Nm]
section
variable {K : PySem.W.Frag} {ρ ρ1 : Rho} {I J L N : Asn} {ta tb tc te : TE} {d e : Dat} {t u : TT} {b c : Bool}
/-! ### expressions -/
theorem e_var {i : Nat} (h : ρ[i]? = some (some d)) : E K (tVar i) ρ I d I := fun G H σ gh en io Q q => by
  obtain ⟨v, h1, h2⟩ := env_get en h
  exact ⟨v, h1, q v G H (Same.refl _) gh io h2⟩
theorem e_int {i : Int} : E K (tC (.int i)) ρ I (.i i) I := fun G H σ gh en io Q q => q _ G H (Same.refl _) gh io (.int i)
theorem e_bl {i : Bool} : E K (tC (.bl i)) ρ I (.b i) I := fun G H σ gh en io Q q => q _ G H (Same.refl _) gh io (.bl i)
theorem e_str {i : Str} : E K (tC (.str i)) ρ I (.d (.str i)) I := fun G H σ gh en io Q q => q _ G H (Same.refl _) gh io (.str i)
theorem e_non : E K (tC .non) ρ I (.d .none) I := fun G H σ gh en io Q q => q _ G H (Same.refl _) gh io .non
/-- a two-place operation on values -/
theorem e_op {r : R2} {f : Dat} (ha : E K ta ρ I d J) (hb : E K tb ρ J e L) (hr : ∀ G H x y, Same G H → L.ok G H → Dv K G x d → Dv K G y e → ∀ Q : VK, (∀ v G2 H2, Same G G2 → Same G2 H2 → N.ok G2 H2 → Dv K G2 v f → Q v H2) → r x y H Q) : E K (tOp r ta tb) ρ I f N :=
  fun G H σ gh en io Q q => ha G H σ gh en io _ fun x G1 H1 g1 gh1 j1 dx => hb G1 H1 σ gh1 (env_mono g1 en) j1 _ fun y G2 H2 g2 gh2 j2 dy =>
    hr G2 H2 x y gh2 j2 (dv_mono g2 dx) dy Q fun v G3 H3 g3 => q v G3 H3 ((g1.trans g2).trans g3)
theorem dv_int {G : Hp} {x : V} {i : Int} (h : Dv K G x (.i i)) : x = .int i := by
  cases h
  rfl
theorem dv_bl {G : Hp} {x : V} {i : Bool} (h : Dv K G x (.b i)) : x = .bl i := by
  cases h
  rfl
theorem e_I0 {f : Int → Int → Int} {i j : Int} (ha : E K ta ρ I (.i i) J) (hb : E K tb ρ J (.i j) L) : E K (tOp (rI0 fun i j => .int (f i j)) ta tb) ρ I (.i (f i j)) L :=
  e_op ha hb fun G H x y gh lo dx dy Q q => ⟨i, j, dv_int dx, dv_int dy, q _ G H (Same.refl _) gh lo (.int _)⟩
theorem e_I {C : Int → Int → Prop} {f : Int → Int → Int} {i j : Int} (ha : E K ta ρ I (.i i) J) (hb : E K tb ρ J (.i j) L) (hc : C i j) : E K (tOp (rI C fun i j => .int (f i j)) ta tb) ρ I (.i (f i j)) L :=
  e_op ha hb fun G H x y gh lo dx dy Q q => ⟨i, j, dv_int dx, dv_int dy, hc, q _ G H (Same.refl _) gh lo (.int _)⟩
theorem e_B0 {f : Int → Int → Bool} {i j : Int} (ha : E K ta ρ I (.i i) J) (hb : E K tb ρ J (.i j) L) : E K (tOp (rI0 fun i j => .bl (f i j)) ta tb) ρ I (.b (f i j)) L :=
  e_op ha hb fun G H x y gh lo dx dy Q q => ⟨i, j, dv_int dx, dv_int dy, q _ G H (Same.refl _) gh lo (.bl _)⟩
theorem e_add {i j : Int} (ha : E K ta ρ I (.i i) J) (hb : E K tb ρ J (.i j) L) : E K (tOp (rI0 fun i j => .int (i + j)) ta tb) ρ I (.i (i + j)) L := e_I0 (f := fun i j => i + j) ha hb
theorem e_sub {i j : Int} (ha : E K ta ρ I (.i i) J) (hb : E K tb ρ J (.i j) L) : E K (tOp (rI0 fun i j => .int (i - j)) ta tb) ρ I (.i (i - j)) L := e_I0 (f := fun i j => i - j) ha hb
theorem e_mul {i j : Int} (ha : E K ta ρ I (.i i) J) (hb : E K tb ρ J (.i j) L) (hc : CMulW i j) : E K (tOp (rI CMulW fun i j => .int (i * j)) ta tb) ρ I (.i (i * j)) L := e_I (f := fun i j => i * j) ha hb hc
theorem e_div {i j : Int} (ha : E K ta ρ I (.i i) J) (hb : E K tb ρ J (.i j) L) (hc : CDivW i j) : E K (tOp (rI CDivW fun i j => .int (i / j)) ta tb) ρ I (.i (i / j)) L := e_I (f := fun i j => i / j) ha hb hc
theorem e_mod {i j : Int} (ha : E K ta ρ I (.i i) J) (hb : E K tb ρ J (.i j) L) (hc : 0 < j) : E K (tOp (rI (fun _ j => 0 < j) fun i j => .int (i % j)) ta tb) ρ I (.i (i % j)) L := e_I (f := fun i j => i % j) ha hb hc
theorem e_pow {i j : Int} (ha : E K ta ρ I (.i i) J) (hb : E K tb ρ J (.i j) L) (hc : CPow i j) : E K (tOp (rI CPow fun i j => .int (i ^ j.toNat)) ta tb) ρ I (.i (i ^ j.toNat)) L := e_I (f := fun i j => i ^ j.toNat) ha hb hc
theorem e_lt {i j : Int} (ha : E K ta ρ I (.i i) J) (hb : E K tb ρ J (.i j) L) : E K (tOp (rI0 fun i j => .bl (decide (i < j))) ta tb) ρ I (.b (decide (i < j))) L := e_B0 (f := fun i j => decide (i < j)) ha hb
theorem e_le {i j : Int} (ha : E K ta ρ I (.i i) J) (hb : E K tb ρ J (.i j) L) : E K (tOp (rI0 fun i j => .bl (decide (i ≤ j))) ta tb) ρ I (.b (decide (i ≤ j))) L := e_B0 (f := fun i j => decide (i ≤ j)) ha hb
theorem e_gt {i j : Int} (ha : E K ta ρ I (.i i) J) (hb : E K tb ρ J (.i j) L) : E K (tOp (rI0 fun i j => .bl (decide (j < i))) ta tb) ρ I (.b (decide (j < i))) L := e_B0 (f := fun i j => decide (j < i)) ha hb
theorem e_ge {i j : Int} (ha : E K ta ρ I (.i i) J) (hb : E K tb ρ J (.i j) L) : E K (tOp (rI0 fun i j => .bl (decide (j ≤ i))) ta tb) ρ I (.b (decide (j ≤ i))) L := e_B0 (f := fun i j => decide (j ≤ i)) ha hb
theorem e_eqI {i j : Int} (ha : E K ta ρ I (.i i) J) (hb : E K tb ρ J (.i j) L) : E K (tOp rEq ta tb) ρ I (.b (decide (i = j))) L :=
  e_op ha hb fun G H x y gh lo dx dy Q q => by
    obtain rfl := dv_int dx
    obtain rfl := dv_int dy
    refine ⟨rfl, q _ G H (Same.refl _) gh lo ?_⟩
    have z : decide (V.int i = V.int j) = decide (i = j) := by
      by_cases h : i = j
      · subst h; simp
      · rw [decide_eq_false h, decide_eq_false (fun z => h (V.int.inj z))]
    rw [z]
    exact .bl _
theorem e_neI {i j : Int} (ha : E K ta ρ I (.i i) J) (hb : E K tb ρ J (.i j) L) : E K (tOp rNe ta tb) ρ I (.b (!decide (i = j))) L :=
  e_op ha hb fun G H x y gh lo dx dy Q q => by
    obtain rfl := dv_int dx
    obtain rfl := dv_int dy
    refine ⟨rfl, q _ G H (Same.refl _) gh lo ?_⟩
    have z : decide (V.int i = V.int j) = decide (i = j) := by
      by_cases h : i = j
      · subst h; simp
      · rw [decide_eq_false h, decide_eq_false (fun z => h (V.int.inj z))]
    rw [z]
    exact .bl _
theorem e_eqD {x y : PyData} (ha : E K ta ρ I (.d x) J) (hb : E K tb ρ J (.d y) L) (hx : SeqAt.shaped x = true) (hy : SeqAt.shaped y = true) : E K (tOp (rEqD K) ta tb) ρ I (.b (PyData.eqv x y)) L :=
  e_op ha hb fun G H a b gh lo dx dy Q q => ⟨x, y, dp_mono gh _ _ dx, dp_mono gh _ _ dy, hx, hy, q _ G H (Same.refl _) gh lo (.bl _)⟩
theorem e_neD {x y : PyData} (ha : E K ta ρ I (.d x) J) (hb : E K tb ρ J (.d y) L) (hx : SeqAt.shaped x = true) (hy : SeqAt.shaped y = true) : E K (tOp (rNeD K) ta tb) ρ I (.b (!PyData.eqv x y)) L :=
  e_op ha hb fun G H a b gh lo dx dy Q q => ⟨x, y, dp_mono gh _ _ dx, dp_mono gh _ _ dy, hx, hy, q _ G H (Same.refl _) gh lo (.bl _)⟩
theorem e_neg {i : Int} (ha : E K ta ρ I (.i i) J) : E K (tUn (rU fun i => .int (-i)) ta) ρ I (.i (-i)) J :=
  fun G H σ gh en io Q q => ha G H σ gh en io _ fun x G1 H1 g1 gh1 j1 dx => ⟨i, dv_int dx, q _ G1 H1 g1 gh1 j1 (.int _)⟩
/-- an item of a tuple -/
theorem e_ixT {ds : List PyData} {j : Nat} {x : PyData} (ha : E K ta ρ I (.t ds) J) (hb : E K tb ρ J (.i (j : Nat)) L) (h : ds[j]? = some x) : E K (tOp (rIxT K) ta tb) ρ I (.d x) L :=
  e_op ha hb fun G H a b gh lo dx dy Q q => by
    cases dx with
    | tup s r =>
      obtain rfl := dv_int dy
      obtain ⟨v, h1, h2⟩ := dpa_get r h
      exact ⟨_, _, _, v, rfl, rfl, same_t gh s, atI_nat h1, q v G H (Same.refl _) gh lo h2⟩
/-- an item of a list that never changes -/
theorem e_ixL {ds : List PyData} {j : Nat} {x : PyData} (ha : E K ta ρ I (.d (.list ds)) J) (hb : E K tb ρ J (.i (j : Nat)) L) (h : ds[j]? = some x) : E K (tOp (rIxL K) ta tb) ρ I (.d x) L :=
  e_op ha hb fun G H a b gh lo dx dy Q q => by
    cases dx with
    | lst s r =>
      obtain rfl := dv_int dy
      obtain ⟨v, h1, h2⟩ := dpa_get r h
      exact ⟨_, _, _, v, rfl, rfl, gh.seq s, atI_nat h1, q v G H (Same.refl _) gh lo h2⟩
/-! ### arguments, displays, calls of built-ins -/
theorem a_nil : A K tNil ρ I [] I := fun G H σ gh en io Q q => q [] G H (Same.refl _) gh io trivial
theorem a_cons {tr : TA} {ds : List Dat} (ha : E K ta ρ I d J) (hr : A K tr ρ J ds L) : A K (tCons ta tr) ρ I (d :: ds) L :=
  fun G H σ gh en io Q q => ha G H σ gh en io _ fun x G1 H1 g1 gh1 j1 dx => hr G1 H1 σ gh1 (env_mono g1 en) j1 _ fun xs G2 H2 g2 gh2 j2 dxs => q (x :: xs) G2 H2 (g1.trans g2) gh2 j2 ⟨dv_mono g2 dx, dxs⟩
theorem sz_of {n : Nat} (h : n ≤ 100000) : n ≤ sizeLine := Nat.le_trans h (by decide)
theorem e_tupA {tr : TA} {ds : List PyData} (hr : A K tr ρ I (ds.map Dat.d) J) (hl : ds.length ≤ 100000) : E K (tTup tr) ρ I (.t ds) J :=
  fun G H σ gh en io Q q => hr G H σ gh en io _ fun xs G1 H1 g1 gh1 j1 dxs => by
    have r := dva_dp dxs
    refine ⟨by rw [dpa_len r]; exact sz_of hl, fun p hp => ?_⟩
    have s := Stp.new (o := .tup xs) gh1 hp
    exact q _ _ _ (g1.trans s.gg) s.gh (Asn.pure_st s j1) (.tup (.inl (.inl upd_same)) (dp_monos s.gg ds xs r))
theorem e_lstA {tr : TA} {ds : List PyData} (hr : A K tr ρ I (ds.map Dat.d) J) (hl : ds.length ≤ 100000) : E K (tLst tr) ρ I (.d (.list ds)) J :=
  fun G H σ gh en io Q q => hr G H σ gh en io _ fun xs G1 H1 g1 gh1 j1 dxs => by
    have r := dva_dp dxs
    refine ⟨by rw [dpa_len r]; exact sz_of hl, fun p hp => ?_⟩
    have s := Stp.new (o := .lst xs) gh1 hp
    exact q _ _ _ (g1.trans s.gg) s.gh (Asn.pure_st s j1) (.lst (.inl (.inl upd_same)) (dp_monos s.gg ds xs r))
inductive Ds : List Dat → List PyData → Prop
  | nil : Ds [] []
  | cons {x : PyData} {ds : List Dat} {xs : List PyData} : Ds ds xs → Ds (.d x :: ds) (x :: xs)
theorem Ds.map {ds : List Dat} {xs : List PyData} (h : Ds ds xs) : ds = xs.map Dat.d := by
  induction h with
  | nil => rfl
  | cons _ ih => rw [ih, List.map_cons]
theorem e_tup {tr : TA} {ds : List Dat} {xs : List PyData} (hr : A K tr ρ I ds J) (hd : Ds ds xs) (hl : xs.length ≤ 100000) : E K (tTup tr) ρ I (.t xs) J := e_tupA (by rw [← hd.map]; exact hr) hl
theorem e_lst {tr : TA} {ds : List Dat} {xs : List PyData} (hr : A K tr ρ I ds J) (hd : Ds ds xs) (hl : xs.length ≤ 100000) : E K (tLst tr) ρ I (.d (.list xs)) J := e_lstA (by rw [← hd.map]; exact hr) hl
theorem e_cb {r : List V → Hp → VK → Prop} {tr : TA} {ds : List Dat} (hr : A K tr ρ I ds J) (h : ∀ G H vs, Same G H → J.ok G H → DvAll K G vs ds → ∀ Q : VK, (∀ v G2 H2, Same G G2 → Same G2 H2 → L.ok G2 H2 → Dv K G2 v d → Q v H2) → r vs H Q) : E K (tCB r tr) ρ I d L :=
  fun G H σ gh en io Q q => hr G H σ gh en io _ fun xs G1 H1 g1 gh1 j1 dxs => h G1 H1 xs gh1 j1 dxs Q fun v G2 H2 g2 => q v G2 H2 (g1.trans g2)
theorem dva1 {G : Hp} {vs : List V} {d : Dat} (h : DvAll K G vs [d]) : ∃ v, vs = [v] ∧ Dv K G v d := by
  match vs, h with
  | [v], h => exact ⟨v, rfl, h.1⟩
theorem dva2 {G : Hp} {vs : List V} {d e : Dat} (h : DvAll K G vs [d, e]) : ∃ v w, vs = [v, w] ∧ Dv K G v d ∧ Dv K G w e := by
  match vs, h with
  | [v, w], h => exact ⟨v, w, rfl, h.1, h.2.1⟩
theorem e_gcd {i j : Int} {tr : TA} (hr : A K tr ρ I [.i i, .i j] J) : E K (tCB rGcd tr) ρ I (.i ((Nat.gcd i.natAbs j.natAbs : Nat) : Int)) J :=
  e_cb hr fun G H vs gh jo h Q q => by
    obtain ⟨v, w, rfl, h1, h2⟩ := dva2 h
    obtain rfl := dv_int h1
    obtain rfl := dv_int h2
    exact ⟨i, j, rfl, q _ G H (Same.refl _) gh jo (.int _)⟩
theorem e_len {ds : List PyData} {tr : TA} (hr : A K tr ρ I [.d (.list ds)] J) : E K (tCB (fun xs H Q => ∃ p ys, xs = [.ref p] ∧ (SqL K H p ys ∨ SqT K H p ys) ∧ Q (.int ys.length) H) tr) ρ I (.i (ds.length : Nat)) J :=
  e_cb hr fun G H vs gh jo h Q q => by
    obtain ⟨v, rfl, h1⟩ := dva1 h
    cases h1 with
    | lst s r => exact ⟨_, _, rfl, .inl (gh.seq s), by rw [dpa_len r]; exact q _ G H (Same.refl _) gh jo (.int _)⟩
theorem e_lenT {ds : List PyData} {tr : TA} (hr : A K tr ρ I [.t ds] J) : E K (tCB (fun xs H Q => ∃ p ys, xs = [.ref p] ∧ (SqL K H p ys ∨ SqT K H p ys) ∧ Q (.int ys.length) H) tr) ρ I (.i (ds.length : Nat)) J :=
  e_cb hr fun G H vs gh jo h Q q => by
    obtain ⟨v, rfl, h1⟩ := dva1 h
    cases h1 with
    | tup s r => exact ⟨_, _, rfl, .inr (same_t gh s), by rw [dpa_len r]; exact q _ G H (Same.refl _) gh jo (.int _)⟩
/-! ### tests -/
theorem t_test (h : E K te ρ I (.b b) J) : T K (tTest te) ρ I b J := fun G H σ gh en io Q q => h G H σ gh en io _ fun x G1 H1 g1 gh1 j1 dx => ⟨b, dv_bl dx, q G1 H1 g1 gh1 j1⟩
theorem t_B (h : E K te ρ I (.b b) J) : T K (tB te) ρ I b J := fun G H σ gh en io Q q => h G H σ gh en io _ fun x G1 H1 g1 gh1 j1 dx => ⟨b, dv_bl dx, q G1 H1 g1 gh1 j1⟩
theorem t_not (h : T K t ρ I b J) : T K (tNot t) ρ I (!b) J := fun G H σ gh en io Q q => h G H σ gh en io _ fun G1 H1 g1 gh1 j1 => q G1 H1 g1 gh1 j1
theorem t_and (h : T K t ρ I b J) (h2 : b = true → T K u ρ J c J) : T K (tAnd t u) ρ I (b && c) J := fun G H σ gh en io Q q => h G H σ gh en io _ fun G1 H1 g1 gh1 j1 => by
  cases b with
  | true =>
    show u σ H1 Q
    exact h2 rfl G1 H1 σ gh1 (env_mono g1 en) j1 Q fun G2 H2 g2 => q G2 H2 (g1.trans g2)
  | false =>
    show Q false H1
    exact q G1 H1 g1 gh1 j1
theorem t_or (h : T K t ρ I b J) (h2 : b = false → T K u ρ J c J) : T K (tOr t u) ρ I (b || c) J := fun G H σ gh en io Q q => h G H σ gh en io _ fun G1 H1 g1 gh1 j1 => by
  cases b with
  | false =>
    show u σ H1 Q
    exact h2 rfl G1 H1 σ gh1 (env_mono g1 en) j1 Q fun G2 H2 g2 => q G2 H2 (g1.trans g2)
  | true =>
    show Q true H1
    exact q G1 H1 g1 gh1 j1
/-- and, or whose outcome is told by the first -/
theorem t_andF (h : T K t ρ I false J) : T K (tAnd t u) ρ I false J := fun G H σ gh en io Q q => h G H σ gh en io _ fun G1 H1 g1 gh1 j1 => q G1 H1 g1 gh1 j1
theorem t_andT (h : T K t ρ I true J) (h2 : T K u ρ J c L) : T K (tAnd t u) ρ I c L := fun G H σ gh en io Q q => h G H σ gh en io _ fun G1 H1 g1 gh1 j1 => h2 G1 H1 σ gh1 (env_mono g1 en) j1 Q fun G2 H2 g2 => q G2 H2 (g1.trans g2)
theorem t_is {b c : Bool} (h : T K t ρ I b J) (e : b = c) : T K t ρ I c J := e ▸ h
theorem e_is {d e : Dat} (h : E K te ρ I d J) (z : d = e) : E K te ρ I e J := z ▸ h
theorem e_ifT (h : T K t ρ I true J) (h2 : E K ta ρ J d L) : E K (tIf t ta tb) ρ I d L := fun G H σ gh en io Q q => h G H σ gh en io _ fun G1 H1 g1 gh1 j1 => h2 G1 H1 σ gh1 (env_mono g1 en) j1 Q fun v G2 H2 g2 => q v G2 H2 (g1.trans g2)
theorem e_ifF (h : T K t ρ I false J) (h2 : E K tb ρ J d L) : E K (tIf t ta tb) ρ I d L := fun G H σ gh en io Q q => h G H σ gh en io _ fun G1 H1 g1 gh1 j1 => h2 G1 H1 σ gh1 (env_mono g1 en) j1 Q fun v G2 H2 g2 => q v G2 H2 (g1.trans g2)
theorem e_andV (h : E K ta ρ I (.b b) J) (h2 : b = true → E K tb ρ J (.b c) J) : E K (tAndV ta tb) ρ I (.b (b && c)) J := fun G H σ gh en io Q q => h G H σ gh en io _ fun x G1 H1 g1 gh1 j1 dx => ⟨b, dv_bl dx, by
  cases b with
  | true =>
    show tb σ H1 Q
    exact h2 rfl G1 H1 σ gh1 (env_mono g1 en) j1 Q fun v G2 H2 g2 => q v G2 H2 (g1.trans g2)
  | false =>
    show Q (.bl false) H1
    exact q _ G1 H1 g1 gh1 j1 (.bl _)⟩
theorem e_orV (h : E K ta ρ I (.b b) J) (h2 : b = false → E K tb ρ J (.b c) J) : E K (tOrV ta tb) ρ I (.b (b || c)) J := fun G H σ gh en io Q q => h G H σ gh en io _ fun x G1 H1 g1 gh1 j1 dx => ⟨b, dv_bl dx, by
  cases b with
  | false =>
    show tb σ H1 Q
    exact h2 rfl G1 H1 σ gh1 (env_mono g1 en) j1 Q fun v G2 H2 g2 => q v G2 H2 (g1.trans g2)
  | true =>
    show Q (.bl true) H1
    exact q _ G1 H1 g1 gh1 j1 (.bl _)⟩
/-! ### statements -/
variable {ts us : TS} {k : Out}
theorem s_next : S K tNext ρ I (.nx ρ I) := fun G H σ D gh en io f => f G H σ (Same.refl _) gh en io
theorem s_asg {i : Nat} (h : E K te ρ I d J) : S K (tAsg te (gName i)) ρ I (.nx (ρ.set i (some d)) J) := fun G H σ D gh en io f => h G H σ gh en io _ fun v G1 H1 g1 gh1 j1 dv => f G1 H1 _ g1 gh1 (env_set dv (env_mono g1 en)) j1
theorem s_ret (h : E K te ρ I d J) : S K (tRet te) ρ I (.rt d J) := fun G H σ D gh en io f => h G H σ gh en io _ fun v G1 H1 g1 gh1 j1 dv => f v G1 H1 g1 gh1 j1 dv
theorem s_drop (h : E K te ρ I d J) : S K (tDrop te) ρ I (.nx ρ J) := fun G H σ D gh en io f => h G H σ gh en io _ fun v G1 H1 g1 gh1 j1 dv => f G1 H1 σ g1 gh1 (env_mono g1 en) j1
theorem s_seq (h : S K ts ρ I (.nx ρ1 J)) (h2 : S K us ρ1 J k) : S K (tSeq ts us) ρ I k := fun G H σ D gh en io f => h G H σ _ gh en io fun G1 H1 σ1 g1 gh1 en1 j1 => h2 G1 H1 σ1 D gh1 en1 j1 (f.mono g1)
theorem s_stop {d : Dat} (h : S K ts ρ I (.rt d J)) : S K (tSeq ts us) ρ I (.rt d J) := fun G H σ D gh en io f => h G H σ _ gh en io f
theorem s_stopC {ρ1 : Rho} (h : S K ts ρ I (.ct ρ1 J)) : S K (tSeq ts us) ρ I (.ct ρ1 J) := fun G H σ D gh en io f => h G H σ _ gh en io f
theorem s_cont : S K tCont ρ I (.ct ρ I) := fun G H σ D gh en io f => f G H σ (Same.refl _) gh en io
theorem s_ifT (h : T K t ρ I true J) (h2 : S K ts ρ J k) : S K (tIfS t ts us) ρ I k := fun G H σ D gh en io f => h G H σ gh en io _ fun G1 H1 g1 gh1 j1 => h2 G1 H1 σ D gh1 (env_mono g1 en) j1 (f.mono g1)
theorem s_ifF (h : T K t ρ I false J) (h2 : S K us ρ J k) : S K (tIfS t ts us) ρ I k := fun G H σ D gh en io f => h G H σ gh en io _ fun G1 H1 g1 gh1 j1 => h2 G1 H1 σ D gh1 (env_mono g1 en) j1 (f.mono g1)
theorem s_par {i j : Nat} {tr : TA} (h : A K tr ρ I [d, e] J) : S K (tPar i j tr) ρ I (.nx ((ρ.set i (some d)).set j (some e)) J) := fun G H σ D gh en io f => h G H σ gh en io _ fun vs G1 H1 g1 gh1 j1 dv => by
  obtain ⟨v, w, rfl, h1, h2⟩ := dva2 dv
  exact ⟨v, w, rfl, f G1 H1 _ g1 gh1 (env_set h2 (env_set h1 (env_mono g1 en))) j1⟩
theorem s_lessN {ρ' ρ'' : Rho} (l : Less ρ' ρ'') (h : S K ts ρ I (.nx ρ' J)) : S K ts ρ I (.nx ρ'' J) := fun G H σ D gh en io f => h G H σ D gh en io fun G2 H2 σ2 g2 gh2 en2 => f G2 H2 σ2 g2 gh2 (env_less l en2)
/-! ### while -/
theorem s_while {α : Type} {tc : TT} (Iv : α → Prop) (P : α → Rho) (V : α → Asn) (μ : α → Nat) (s0 : α) (h0 : Iv s0)
    (turn : ∀ s, Iv s → (T K tc (P s) (V s) true (V s) ∧ ((∃ s', Iv s' ∧ μ s' < μ s ∧ S K ts (P s) (V s) (.nx (P s') (V s'))) ∨ (∃ d J, k = .rt d J ∧ S K ts (P s) (V s) k))) ∨ (T K tc (P s) (V s) false (V s) ∧ k = .nx (P s) (V s))) :
    S K (tWhile tc ts) (P s0) (V s0) k := fun G H σ D gh en io f => by
  refine ⟨fun m σ' H' => ∃ s G', m = μ s ∧ Iv s ∧ Same G G' ∧ Same G' H' ∧ EnvD K G' σ' (P s) ∧ (V s).ok G' H', ⟨μ s0, s0, G, rfl, h0, Same.refl _, gh, en, io⟩, fun m σ' H' hw => ?_⟩
  obtain ⟨s, G', rfl, iv, g', gh', en', io'⟩ := hw
  rcases turn s iv with ⟨ht, hb⟩ | ⟨ht, hk⟩
  · refine ht G' H' σ' gh' en' io' _ fun G1 H1 g1 gh1 j1 => ?_
    rcases hb with ⟨s', iv', lt, hs⟩ | ⟨d, J, rfl, hs⟩
    · refine ⟨fun σ2 H2 => ∃ G2, Same G G2 ∧ Same G2 H2 ∧ EnvD K G2 σ2 (P s') ∧ (V s').ok G2 H2, fun σ2 H2 ⟨G2, a, b, c, d⟩ => ⟨μ s', lt, s', G2, rfl, iv', a, b, c, d⟩, ?_⟩
      exact hs G1 H1 σ' _ gh1 (env_mono g1 en') j1 fun G2 H2 σ2 g2 gh2 en2 j2 => ⟨G2, (g'.trans g1).trans g2, gh2, en2, j2⟩
    · refine ⟨fun _ _ => False, fun _ _ z => z.elim, ?_⟩
      exact hs G1 H1 σ' _ gh1 (env_mono g1 en') j1 ((f.mono g').mono g1 : Fin K D G1 (.rt d J))
  · subst hk
    exact ht G' H' σ' gh' en' io' _ fun G1 H1 g1 gh1 j1 => f G1 H1 σ' (g'.trans g1) gh1 (env_mono g1 en') j1
/-! ### for over a list that never changes, a tuple, a range -/
theorem s_forL {tl : TE} {ds : List PyData} {j : Nat} (P : Nat → Rho) (V : Nat → Asn) (hl : E K tl ρ I (.d (.list ds)) (V 0)) (h0 : ρ = P 0)
    (turn : ∀ i x, ds[i]? = some x → S K ts ((P i).set j (some (.d x))) (V i) (.nx (P (i + 1)) (V (i + 1)))) : S K (tFor (iList K tl) (gName j) ts) ρ I (.nx (P ds.length) (V ds.length)) := fun G H σ D gh en io f => by
  refine hl G H σ gh en io _ fun v G1 H1 g1 gh1 j1 dv => ?_
  cases dv with
  | lst s r =>
    rename_i a xs
    subst h0
    refine ⟨a, rfl, ⟨_, gh1.seq s⟩, for_list (xs := xs) (fun i σ' H' => ∃ G', Same G1 G' ∧ Same G' H' ∧ EnvD K G' σ' (P i) ∧ (V i).ok G' H') ⟨G1, Same.refl _, gh1, env_mono g1 en, j1⟩ (fun i σ' H' _ ⟨G', a1, a2, _⟩ => (a1.trans a2).seq s) (fun i x σ' H' hx ⟨G', a1, a2, a3, a4⟩ => ?_) (fun σ' H' ⟨G', a1, a2, a3, a4⟩ => ?_)⟩
    · have hi : i < xs.length := (List.getElem?_eq_some_iff.mp hx).1
      have hi2 : i < ds.length := by rw [← dpa_len r]; exact hi
      obtain ⟨w, h1, h2⟩ := dpa_get r (List.getElem?_eq_getElem hi2)
      rw [hx] at h1
      obtain rfl := Option.some.inj h1
      exact turn i _ (List.getElem?_eq_getElem hi2) G' H' _ _ a2 (env_set (d := .d _) (dp_mono a1 _ _ h2) a3) a4 fun G2 H2 σ2 g2 gh2 en2 j2 => ⟨G2, a1.trans g2, gh2, en2, j2⟩
    · rw [dpa_len r] at a3 a4
      exact f G' H' σ' (g1.trans a1) a2 a3 a4
/-! ### defs that change nothing -/
/-- the tables at T are known wherever J holds -/
class HasT (T : Tbs) (J : Asn) : Prop where
  get : ∀ G H, J.ok G H → TabsIn T G H
abbrev noT : Tbs := ⟨[], []⟩
instance : HasT noT J := ⟨fun _ _ _ => ⟨fun p hp => (by cases hp), fun p hp => (by cases hp)⟩⟩
instance {T : Tbs} [h : HasT T J] : HasT T (I.and J) := ⟨fun G H z => h.get G H z.2⟩
def Asn.tab (T : Tbs) : Asn := ⟨NoA, fun G H => TabsIn T G H, fun _ _ _ _ _ _ s h => h.go s, fun _ _ _ _ z => z.elim⟩
instance {T : Tbs} : HasT T (Asn.tab T) := ⟨fun _ _ z => z⟩
/-- R ds d: of the arguments ds it hands back d; the tables at T may grow -/
def spT (K : PySem.W.Frag) (T : Tbs) (R : List Dat → Dat → Prop) : Sp := fun vs H Q _ => ∃ G ds d, Same G H ∧ DvAll K G vs ds ∧ R ds d ∧ TabsIn T G H ∧ ∀ v G2 H2, Stp NoA G H G2 H2 → Dv K G2 v d → Q v H2
abbrev spP (K : PySem.W.Frag) (R : List Dat → Dat → Prop) : Sp := spT K noT R
theorem e_call {T : Tbs} {R : List Dat → Dat → Prop} {X : XK} {tr : TA} {ds : List Dat} [hT : HasT T J] (hr : A K tr ρ I ds J) (h : R ds d) : E K (tCall (spT K T R) [] X tr) ρ I d J := fun G H σ gh en io Q q => hr G H σ gh en io _ fun vs G1 H1 g1 gh1 j1 dvs => by
  rw [List.append_nil]
  exact ⟨G1, ds, d, gh1, dvs, h, hT.get _ _ j1, fun v G2 H2 s dv => q v G2 H2 (g1.trans s.gg) s.gh (Asn.pure_st s j1) dv⟩
theorem body_T {T : Tbs} {R : List Dat → Dat → Prop} {N : List Str} {vs : List V} {H : Hp} {Q : VK} {X : XK} (hb : ∀ ds d, R ds d → ∀ I, HasT T I → S K ts (ds.map some ++ List.replicate (N.length - ds.length) none) I (.rt d I)) (h : spT K T R vs H Q X) :
    ts { nx := fun _ H' => Q .non H', rt := Q } (L2.start N vs) H := by
  obtain ⟨G, ds, d, gh, dvs, r, tb, q⟩ := h
  refine hb ds d r ((Asn.since NoA G H).and (Asn.tab T)) inferInstance G H _ _ gh ?_ ⟨Stp.refl gh, tb⟩ fun v G2 H2 g2 gh2 j2 dv => q v G2 H2 j2.1 dv
  unfold L2.start
  rw [dva_len dvs]
  exact env_start _ dvs
theorem body_P {R : List Dat → Dat → Prop} {N : List Str} {vs : List V} {H : Hp} {Q : VK} {X : XK} (hb : ∀ ds d, R ds d → ∀ I, S K ts (ds.map some ++ List.replicate (N.length - ds.length) none) I (.rt d I)) (h : spP K R vs H Q X) :
    ts { nx := fun _ H' => Q .non H', rt := Q } (L2.start N vs) H := body_T (fun ds d r I _ => hb ds d r I) h
theorem len_P {T : Tbs} {R : List Dat → Dat → Prop} {n : Nat} (hl : ∀ ds d, R ds d → ds.length = n) {vs : List V} {H : Hp} {Q : VK} {X : XK} (h : spT K T R vs H Q X) : vs.length = n := by
  obtain ⟨G, ds, d, gh, dvs, r, _, q⟩ := h
  rw [dva_len dvs, hl ds d r]
end
end PL
namespace PL
open PySem PySem.Spec PyProof.Rows L2
variable [Nm]
/-! ### the drawing list -/
structure DS where
  a : Addr
  ns : List Int
  pos : Nat
  rest : Int
  seed : Int
def dO (S : DS) : HO := .lst [.ref S.a, .int (S.pos : Nat), .int S.rest, .int S.seed]
section
variable {K : PySem.W.Frag} {ρ ρ1 : Rho} {I J L N : Asn} {ta tb tc te : TE} {d e : Dat} {t u : TT} {b c : Bool} {p : Addr} {C C' : DS}
def dA (K : PySem.W.Frag) (p : Addr) (C : DS) : Asn := ⟨(· = p), fun G H => G p = none ∧ H p = some (dO C) ∧ SqL K G C.a (C.ns.map V.int), fun M G H G2 H2 n s h =>
  ⟨s.fr p _ (n p rfl) h.2.1 h.1, s.hh p _ (n p rfl) h.2.1, s.gg.seq h.2.2⟩, fun G H a h (z : a = p) => ⟨dO C, by rw [z]; exact h.2.1⟩⟩
abbrev dJ (K : PySem.W.Frag) (p : Addr) (C : DS) (J : Asn) : Asn := (dA K p C).and J
def dS (C : DS) : List Dat := [.d (.list (C.ns.map PyData.int)), .i (C.pos : Nat), .i C.rest, .i C.seed]
theorem e_dix {j : Nat} {x : Dat} (ha : E K ta ρ I (.r p) (dJ K p C J)) (hb : E K tb ρ (dJ K p C J) (.i (j : Nat)) (dJ K p C J)) (h : (dS C)[j]? = some x) : E K (tOp (rIxL K) ta tb) ρ I x (dJ K p C J) :=
  e_op ha hb fun G H v w gh lo dx dy Q q => by
    obtain rfl : v = .ref p := dx
    obtain rfl := dv_int dy
    obtain ⟨⟨l1, l2, l3⟩, l4⟩ := lo
    have done : ∀ y, atI [V.ref C.a, V.int (C.pos : Nat), V.int C.rest, V.int C.seed] (j : Int) = some y → Dv K G y x → rIxL K (.ref p) (.int (j : Int)) H Q := fun y hy dvy =>
      ⟨p, _, _, y, rfl, rfl, .inl (.inl l2), hy, q y G H (Same.refl _) gh ⟨⟨l1, l2, l3⟩, l4⟩ dvy⟩
    match j, h with
    | 0, h =>
      obtain rfl := Option.some.inj h
      exact done (.ref C.a) (atI_nat (j := 0) rfl) (.lst l3 (dpa_ints _))
    | 1, h =>
      obtain rfl := Option.some.inj h
      exact done _ (atI_nat (j := 1) rfl) (.int _)
    | 2, h =>
      obtain rfl := Option.some.inj h
      exact done _ (atI_nat (j := 2) rfl) (.int _)
    | 3, h =>
      obtain rfl := Option.some.inj h
      exact done _ (atI_nat (j := 3) rfl) (.int _)
    | n + 4, h => simp [dS] at h
/-- a store into it -/
theorem s_dset {x : Int} {j : Nat} (he : E K te ρ I (.i x) (dJ K p C J)) (ha : E K ta ρ (dJ K p C J) (.r p) (dJ K p C J)) (hb : E K tb ρ (dJ K p C J) (.i (j : Nat)) (dJ K p C J)) (hj : j < 4)
    (h : HO.lst ([V.ref C.a, V.int (C.pos : Nat), V.int C.rest, V.int C.seed].set j (.int x)) = dO C') (h2 : C'.a = C.a ∧ C'.ns = C.ns) (hf : ¬ J.foot p) :
    S K (tAsg te (gSub ta tb rSetL)) ρ I (.nx ρ (dJ K p C' J)) := fun G H σ D gh en io f => he G H σ gh en io _ fun v G1 H1 g1 gh1 j1 dv =>
  ha G1 H1 σ gh1 (env_mono g1 en) j1 _ fun o G2 H2 g2 gh2 j2 do_ => hb G2 H2 σ gh2 (env_mono (g1.trans g2) en) j2 _ fun i G3 H3 g3 gh3 j3 di => by
    obtain rfl := dv_int dv
    obtain rfl : o = .ref p := do_
    obtain rfl := dv_int di
    obtain ⟨⟨l1, l2, l3⟩, l4⟩ := j3
    have s := Stp.store (o := dO C') gh3 l1 l2
    refine ⟨p, _, (j : Int), j, rfl, rfl, l2, ?_, ?_⟩
    · unfold ixN
      rw [if_pos (by omega), if_pos (by show (j : Int) < (4 : Nat); omega)]
      simp
    · rw [h]
      refine f _ _ σ ((g1.trans g2).trans g3) s.gh (env_mono ((g1.trans g2).trans g3) en) ⟨⟨l1, upd_same, ?_⟩, J.st _ _ _ _ _ (fun a fa (z : a = p) => hf (z ▸ fa)) s l4⟩
      rw [h2.1, h2.2]
      exact l3
theorem e_int1 {i : Int} {tr : TA} (hr : A K tr ρ I [.i i] J) : E K (tCB (fun xs H Q => (∃ i, xs = [.int i] ∧ Q (.int i) H) ∨ ∃ k, xs = [.bl k] ∧ Q (.int (if k then 1 else 0)) H) tr) ρ I (.i i) J :=
  e_cb hr fun G H vs gh jo h Q q => by
    obtain ⟨v, rfl, h1⟩ := dva1 h
    obtain rfl := dv_int h1
    exact .inl ⟨i, rfl, q _ G H (Same.refl _) gh jo (.int _)⟩
theorem e_abs {i : Int} {tr : TA} (hr : A K tr ρ I [.i i] J) : E K (tCB (fun xs H Q => ∃ i, xs = [.int i] ∧ Q (.int (if i < 0 then -i else i)) H) tr) ρ I (.i (i.natAbs : Nat)) J :=
  e_cb hr fun G H vs gh jo h Q q => by
    obtain ⟨v, rfl, h1⟩ := dva1 h
    obtain rfl := dv_int h1
    refine ⟨i, rfl, ?_⟩
    have z : (if i < 0 then -i else i) = (i.natAbs : Int) := by
      split <;> omega
    rw [z]
    exact q _ G H (Same.refl _) gh jo (.int _)
/-- defs that draw: R ds C d C': of the arguments p, ds and the list as C they hand back d and leave it as C' -/
def spW (K : PySem.W.Frag) (R : List Dat → DS → Dat → DS → Prop) : Sp := fun vs H Q _ => ∃ G ds d p C C', Same G H ∧ DvAll K G vs (.r p :: ds) ∧ (dA K p C).ok G H ∧ R ds C d C' ∧ ∀ v G2 H2, Stp (· = p) G H G2 H2 → (dA K p C').ok G2 H2 → Dv K G2 v d → Q v H2
theorem e_draw {R : List Dat → DS → Dat → DS → Prop} {X : XK} {tr : TA} {ds : List Dat} (hr : A K tr ρ I (.r p :: ds) (dJ K p C J)) (h : R ds C d C') (hf : ¬ J.foot p) : E K (tCall (spW K R) [] X tr) ρ I d (dJ K p C' J) := fun G H σ gh en io Q q => hr G H σ gh en io _ fun vs G1 H1 g1 gh1 j1 dvs => by
  rw [List.append_nil]
  exact ⟨G1, ds, d, p, C, C', gh1, dvs, j1.1, h, fun v G2 H2 s k dv => q v G2 H2 (g1.trans s.gg) s.gh ⟨k, J.st _ _ _ _ _ (fun a fa (z : a = p) => hf (z ▸ fa)) s j1.2⟩ dv⟩
theorem body_W {ts : TS} {R : List Dat → DS → Dat → DS → Prop} {N : List Str} {vs : List V} {H : Hp} {Q : VK} {X : XK} (hb : ∀ ds C d C', R ds C d C' → ∀ p J, ¬ J.foot p → S K ts (some (.r p) :: (ds.map some ++ List.replicate (N.length - (ds.length + 1)) none)) (dJ K p C J) (.rt d (dJ K p C' J))) (h : spW K R vs H Q X) :
    ts { nx := fun _ H' => Q .non H', rt := Q } (L2.start N vs) H := by
  obtain ⟨G, ds, d, p, C, C', gh, dvs, k, r, q⟩ := h
  refine hb ds C d C' r p (Asn.since (· = p) G H) (fun z => z.1 rfl) G H _ _ gh ?_ ⟨k, Stp.refl gh⟩ fun v G2 H2 g2 gh2 j2 dv => q v G2 H2 j2.2 j2.1 dv
  unfold L2.start
  rw [dva_len dvs, List.length_cons]
  exact env_start (ds := .r p :: ds) _ dvs
theorem len_W {R : List Dat → DS → Dat → DS → Prop} {n : Nat} (hl : ∀ ds C d C', R ds C d C' → ds.length + 1 = n) {vs : List V} {H : Hp} {Q : VK} {X : XK} (h : spW K R vs H Q X) : vs.length = n := by
  obtain ⟨G, ds, d, p, C, C', gh, dvs, k, r, q⟩ := h
  rw [dva_len dvs, List.length_cons, hl ds C d C' r]
/-! ### the draws themselves -/
def take1 (C : DS) (m : Int) : Int × DS :=
  if 0 < C.rest then (C.rest % m, { C with rest := C.rest / m })
  else (((C.seed * 48271 + 11) % 2147483647 / 3) % m, { C with seed := (C.seed * 48271 + 11) % 2147483647 })
def take (C : DS) (m : Int) : Int × DS :=
  if C.rest = 0 ∧ C.pos < C.ns.length then
    if ((C.ns.getD C.pos 0).natAbs : Int) < 10 ^ 18 then (((C.ns.getD C.pos 0).natAbs : Int) % m, { C with pos := C.pos + 1, rest := 0 })
    else take1 { C with pos := C.pos + 1, rest := ((C.ns.getD C.pos 0).natAbs : Int) } m
  else take1 C m
structure DOk (C : DS) : Prop where
  r : 0 ≤ C.rest
  s : 0 ≤ C.seed ∧ C.seed < 2147483647
theorem take1_ok {C : DS} {m : Int} (h : DOk C) (hm : 0 < m) : DOk (take1 C m).2 ∧ 0 ≤ (take1 C m).1 ∧ (take1 C m).1 < m := by
  unfold take1
  split
  · exact ⟨⟨Int.ediv_nonneg h.r (Int.le_of_lt hm), h.s⟩, Int.emod_nonneg _ (by omega), Int.emod_lt_of_pos _ hm⟩
  · exact ⟨⟨h.r, Int.emod_nonneg _ (by decide), Int.emod_lt_of_pos _ (by decide)⟩, Int.emod_nonneg _ (by omega), Int.emod_lt_of_pos _ hm⟩
theorem take_ok {C : DS} {m : Int} (h : DOk C) (hm : 0 < m) : DOk (take C m).2 ∧ 0 ≤ (take C m).1 ∧ (take C m).1 < m := by
  unfold take
  split
  · split
    · exact ⟨⟨Int.le_refl _, h.s⟩, Int.emod_nonneg _ (by omega), Int.emod_lt_of_pos _ hm⟩
    · exact take1_ok ⟨by show (0 : Int) ≤ ((C.ns.getD C.pos 0).natAbs : Int); omega, h.s⟩ hm
  · exact take1_ok h hm
end
end PL
/-! Fractions as pairs of integers: the program's own sums and products are the lowest terms. Plain Lean. -/
namespace FR
abbrev F := Int × Int
def Nrm (a : F) : Prop := 0 < a.2 ∧ Int.gcd a.1 a.2 = 1
/-- the lowest terms of n over d, d above 0 -/
def nf (n d : Int) : F := (n / (Int.gcd n d : Int), d / (Int.gcd n d : Int))
def lf (n d : Int) : F := if d < 0 then nf (0 - n) (0 - d) else nf n d
theorem nf_nrm {n d : Int} (h : 0 < d) : Nrm (nf n d) := by
  have g0 : 0 < Int.gcd n d := Int.gcd_pos_of_ne_zero_right n (by omega)
  refine ⟨?_, Int.gcd_ediv_gcd_ediv_gcd g0⟩
  have dv : (Int.gcd n d : Int) ∣ d := Int.gcd_dvd_right n d
  exact Int.ediv_pos_of_pos_of_dvd h (by omega) dv
theorem lf_nrm {n d : Int} (h : d ≠ 0) : Nrm (lf n d) := by
  unfold lf
  split
  · exact nf_nrm (by omega)
  · exact nf_nrm (by omega)
theorem nf_mul1 {n d : Int} (h : 0 < d) : (nf n d).1 * d = n * (nf n d).2 := by
  have g0 : 0 < Int.gcd n d := Int.gcd_pos_of_ne_zero_right n (by omega)
  obtain ⟨x, hx⟩ := Int.gcd_dvd_left n d
  obtain ⟨y, hy⟩ := Int.gcd_dvd_right n d
  have e1 : n / (Int.gcd n d : Int) = x := by
    rw [Int.ediv_eq_of_eq_mul_right (by omega) hx]
  have e2 : d / (Int.gcd n d : Int) = y := by
    rw [Int.ediv_eq_of_eq_mul_right (by omega) hy]
  show n / (Int.gcd n d : Int) * d = n * (d / (Int.gcd n d : Int))
  rw [e1, e2]
  conv => lhs; rw [hy]
  conv => rhs; rw [hx]
  grind
/-- lowest terms are one -/
theorem nrm_one {a b : F} (ha : Nrm a) (hb : Nrm b) (h : a.1 * b.2 = b.1 * a.2) : a = b := by
  obtain ⟨a1, a2⟩ := a
  obtain ⟨b1, b2⟩ := b
  obtain ⟨pa, ga⟩ := ha
  obtain ⟨pb, gb⟩ := hb
  simp only at *
  have d1 : a2 ∣ b2 := by
    have z : a2 ∣ a1 * b2 := ⟨b1, by rw [h]; grind⟩
    exact (Int.dvd_gcd_mul_iff_dvd_mul (k := a2) (n := a1) (m := b2)).mpr z |> fun q => by
      rw [Int.gcd_comm, ga] at q
      simpa using q
  have d2 : b2 ∣ a2 := by
    have z : b2 ∣ b1 * a2 := ⟨a1, by rw [← h]; grind⟩
    exact (Int.dvd_gcd_mul_iff_dvd_mul (k := b2) (n := b1) (m := a2)).mpr z |> fun q => by
      rw [Int.gcd_comm, gb] at q
      simpa using q
  have e : a2 = b2 := Int.le_antisymm (Int.le_of_dvd pb d1) (Int.le_of_dvd pa d2)
  subst e
  have e2 : a1 = b1 := Int.eq_of_mul_eq_mul_right (by omega) h
  rw [e2]
theorem nf_of {a : F} {n d : Int} (ha : Nrm a) (hd : 0 < d) (h : a.1 * d = n * a.2) : a = nf n d := by
  refine nrm_one ha (nf_nrm hd) ?_
  have z := nf_mul1 (n := n) hd
  have w : (a.1 * (nf n d).2) * d = ((nf n d).1 * a.2) * d := by
    grind
  exact Int.eq_of_mul_eq_mul_right (by omega) w
/-! ### the program's own -/
def plusM (a b : F) : F :=
  let s : Int := (Int.gcd a.2 b.2 : Int)
  let t := a.2 / s
  let n := a.1 * (b.2 / s) + b.1 * t
  let v : Int := (Int.gcd n s : Int)
  (n / v, t * (b.2 / v))
def minusM (a b : F) : F := plusM a (-b.1, b.2)
def timesM (a b : F) : F :=
  let f : Int := (Int.gcd a.1 b.2 : Int)
  let s : Int := (Int.gcd b.1 a.2 : Int)
  ((a.1 / f) * (b.1 / s), (a.2 / s) * (b.2 / f))
theorem gcd_one_of {x y z : Int} (h : Int.gcd x y = 1) (d : z ∣ x) : Int.gcd z y = 1 := by
  have q := Int.gcd_dvd_gcd_of_dvd_left y d
  rw [h] at q
  exact Nat.dvd_one.mp q
theorem gcd_one_of2 {x y z : Int} (h : Int.gcd x y = 1) (d : z ∣ y) : Int.gcd x z = 1 := by
  rw [Int.gcd_comm] at h ⊢
  exact gcd_one_of h d
theorem gcd_add {x y k : Int} : Int.gcd (x + k * y) y = Int.gcd x y := by
  simp
theorem plus_nrm {a b : F} (ha : Nrm a) (hb : Nrm b) : Nrm (plusM a b) := by
  obtain ⟨x, p⟩ := a
  obtain ⟨y, q⟩ := b
  obtain ⟨pp, gp⟩ := ha
  obtain ⟨pq, gq⟩ := hb
  simp only at *
  have s0 : 0 < Int.gcd p q := Int.gcd_pos_of_ne_zero_right p (by omega)
  obtain ⟨p', hp⟩ := Int.gcd_dvd_left p q
  obtain ⟨q', hq⟩ := Int.gcd_dvd_right p q
  generalize hs : Int.gcd p q = s at *
  have ep : p / (s : Int) = p' := by rw [Int.ediv_eq_of_eq_mul_right (by omega) hp]
  have eq : q / (s : Int) = q' := by rw [Int.ediv_eq_of_eq_mul_right (by omega) hq]
  have pp' : 0 < p' := by
    rw [← ep]
    exact Int.ediv_pos_of_pos_of_dvd pp (by omega) ⟨p', hp⟩
  have pq' : 0 < q' := by
    rw [← eq]
    exact Int.ediv_pos_of_pos_of_dvd pq (by omega) ⟨q', hq⟩
  have cop : Int.gcd p' q' = 1 := by
    have z := Int.gcd_ediv_gcd_ediv_gcd (i := p) (j := q) (by rw [hs]; omega)
    rw [hs, ep, eq] at z
    exact z
  generalize hn : x * q' + y * p' = n
  have v0 : 0 < Int.gcd n (s : Int) := Int.gcd_pos_of_ne_zero_right n (by omega)
  have vd : (Int.gcd n (s : Int) : Int) ∣ (s : Int) := Int.gcd_dvd_right n s
  have vn : (Int.gcd n (s : Int) : Int) ∣ n := Int.gcd_dvd_left n s
  have cq : Int.gcd (n / (Int.gcd n (s : Int) : Int)) ((s : Int) / (Int.gcd n (s : Int) : Int)) = 1 := Int.gcd_ediv_gcd_ediv_gcd v0
  have dn : n / (Int.gcd n (s : Int) : Int) ∣ n := ⟨(Int.gcd n (s : Int) : Int), (Int.ediv_mul_cancel vn).symm⟩
  have np' : Int.gcd n p' = 1 := by
    have e1 : Int.gcd n p' = Int.gcd (x * q') p' := by
      rw [← hn]
      exact gcd_add
    have e2 : Int.gcd x p' = 1 := gcd_one_of2 gp ⟨s, by rw [hp]; grind⟩
    rw [e1, Int.gcd_mul_right_left_of_gcd_eq_one e2, Int.gcd_comm]
    exact cop
  have nq' : Int.gcd n q' = 1 := by
    have e1 : Int.gcd n q' = Int.gcd (y * p') q' := by
      rw [← hn, Int.add_comm]
      exact gcd_add
    have e2 : Int.gcd y q' = 1 := gcd_one_of2 gq ⟨s, by rw [hq]; grind⟩
    rw [e1, Int.gcd_mul_right_left_of_gcd_eq_one e2]
    exact cop
  have eqv : q / (Int.gcd n (s : Int) : Int) = q' * ((s : Int) / (Int.gcd n (s : Int) : Int)) := by
    rw [hq, Int.mul_comm, Int.mul_ediv_assoc _ vd]
  show 0 < (p / (Int.gcd p q : Int)) * (q / (Int.gcd (x * (q / (Int.gcd p q : Int)) + y * (p / (Int.gcd p q : Int))) (Int.gcd p q : Int) : Int)) ∧ Int.gcd ((x * (q / (Int.gcd p q : Int)) + y * (p / (Int.gcd p q : Int))) / (Int.gcd (x * (q / (Int.gcd p q : Int)) + y * (p / (Int.gcd p q : Int))) (Int.gcd p q : Int) : Int)) ((p / (Int.gcd p q : Int)) * (q / (Int.gcd (x * (q / (Int.gcd p q : Int)) + y * (p / (Int.gcd p q : Int))) (Int.gcd p q : Int) : Int))) = 1
  rw [hs, ep, eq, hn, eqv]
  have psv : 0 < (s : Int) / (Int.gcd n (s : Int) : Int) := Int.ediv_pos_of_pos_of_dvd (by omega) (by omega) vd
  refine ⟨Int.mul_pos pp' (Int.mul_pos pq' psv), ?_⟩
  rw [Int.gcd_mul_right_right_of_gcd_eq_one (gcd_one_of np' dn), Int.gcd_mul_right_right_of_gcd_eq_one (gcd_one_of nq' dn)]
  exact cq
theorem plus_eq {a b : F} (ha : Nrm a) (hb : Nrm b) : plusM a b = nf (a.1 * b.2 + b.1 * a.2) (a.2 * b.2) := by
  refine nf_of (plus_nrm ha hb) (Int.mul_pos ha.1 hb.1) ?_
  obtain ⟨x, p⟩ := a
  obtain ⟨y, q⟩ := b
  obtain ⟨pp, gp⟩ := ha
  obtain ⟨pq, gq⟩ := hb
  simp only at *
  have s0 : 0 < Int.gcd p q := Int.gcd_pos_of_ne_zero_right p (by omega)
  obtain ⟨p', hp⟩ := Int.gcd_dvd_left p q
  obtain ⟨q', hq⟩ := Int.gcd_dvd_right p q
  generalize hs : Int.gcd p q = s at *
  have ep : p / (s : Int) = p' := by rw [Int.ediv_eq_of_eq_mul_right (by omega) hp]
  have eq : q / (s : Int) = q' := by rw [Int.ediv_eq_of_eq_mul_right (by omega) hq]
  generalize hn : x * q' + y * p' = n
  have v0 : 0 < Int.gcd n (s : Int) := Int.gcd_pos_of_ne_zero_right n (by omega)
  obtain ⟨n', vn⟩ := Int.gcd_dvd_left n (s : Int)
  obtain ⟨s', vs⟩ := Int.gcd_dvd_right n (s : Int)
  generalize hv : Int.gcd n (s : Int) = v at *
  have en : n / (v : Int) = n' := by rw [Int.ediv_eq_of_eq_mul_right (by omega) vn]
  have eqv : q / (v : Int) = s' * q' := by
    rw [Int.ediv_eq_of_eq_mul_right (by omega) (show q = (v : Int) * (s' * q') by rw [← Int.mul_assoc, ← vs, ← hq])]
  show ((x * (q / (Int.gcd p q : Int)) + y * (p / (Int.gcd p q : Int))) / (Int.gcd (x * (q / (Int.gcd p q : Int)) + y * (p / (Int.gcd p q : Int))) (Int.gcd p q : Int) : Int)) * (p * q) = (x * q + y * p) * ((p / (Int.gcd p q : Int)) * (q / (Int.gcd (x * (q / (Int.gcd p q : Int)) + y * (p / (Int.gcd p q : Int))) (Int.gcd p q : Int) : Int)))
  rw [hs, ep, eq, hn, hv, en, eqv]
  have e1 : x * q + y * p = (s : Int) * n := by
    rw [← hn, hp, hq]
    grind
  rw [e1, hp, hq, vn]
  conv => lhs; rw [vs]
  conv => rhs; rw [vs]
  grind
theorem times_nrm {a b : F} (ha : Nrm a) (hb : Nrm b) : Nrm (timesM a b) := by
  obtain ⟨x, p⟩ := a
  obtain ⟨y, q⟩ := b
  obtain ⟨pp, gp⟩ := ha
  obtain ⟨pq, gq⟩ := hb
  simp only at *
  have f0 : 0 < Int.gcd x q := Int.gcd_pos_of_ne_zero_right x (by omega)
  have s0 : 0 < Int.gcd y p := Int.gcd_pos_of_ne_zero_right y (by omega)
  have d1 := Int.gcd_dvd_left x q
  have d2 := Int.gcd_dvd_right x q
  have d3 := Int.gcd_dvd_left y p
  have d4 := Int.gcd_dvd_right y p
  have c1 : Int.gcd (x / (Int.gcd x q : Int)) (q / (Int.gcd x q : Int)) = 1 := Int.gcd_ediv_gcd_ediv_gcd f0
  have c2 : Int.gcd (y / (Int.gcd y p : Int)) (p / (Int.gcd y p : Int)) = 1 := Int.gcd_ediv_gcd_ediv_gcd s0
  have m1 : x / (Int.gcd x q : Int) ∣ x := ⟨_, (Int.ediv_mul_cancel d1).symm⟩
  have m2 : q / (Int.gcd x q : Int) ∣ q := ⟨_, (Int.ediv_mul_cancel d2).symm⟩
  have m3 : y / (Int.gcd y p : Int) ∣ y := ⟨_, (Int.ediv_mul_cancel d3).symm⟩
  have m4 : p / (Int.gcd y p : Int) ∣ p := ⟨_, (Int.ediv_mul_cancel d4).symm⟩
  have c3 : Int.gcd (x / (Int.gcd x q : Int)) (p / (Int.gcd y p : Int)) = 1 := gcd_one_of (gcd_one_of2 gp m4) m1
  have c4 : Int.gcd (y / (Int.gcd y p : Int)) (q / (Int.gcd x q : Int)) = 1 := gcd_one_of (gcd_one_of2 gq m2) m3
  refine ⟨Int.mul_pos (Int.ediv_pos_of_pos_of_dvd pp (by omega) d4) (Int.ediv_pos_of_pos_of_dvd pq (by omega) d2), ?_⟩
  show Int.gcd ((x / (Int.gcd x q : Int)) * (y / (Int.gcd y p : Int))) ((p / (Int.gcd y p : Int)) * (q / (Int.gcd x q : Int))) = 1
  have t1 : Int.gcd ((x / (Int.gcd x q : Int)) * (y / (Int.gcd y p : Int))) (p / (Int.gcd y p : Int)) = 1 := by
    rw [Int.gcd_mul_right_left_of_gcd_eq_one c3]
    exact c2
  rw [Int.gcd_mul_right_right_of_gcd_eq_one t1, Int.gcd_mul_right_left_of_gcd_eq_one c1]
  exact c4
theorem times_eq {a b : F} (ha : Nrm a) (hb : Nrm b) : timesM a b = nf (a.1 * b.1) (a.2 * b.2) := by
  refine nf_of (times_nrm ha hb) (Int.mul_pos ha.1 hb.1) ?_
  obtain ⟨x, p⟩ := a
  obtain ⟨y, q⟩ := b
  obtain ⟨pp, gp⟩ := ha
  obtain ⟨pq, gq⟩ := hb
  simp only at *
  have f0 : 0 < Int.gcd x q := Int.gcd_pos_of_ne_zero_right x (by omega)
  have s0 : 0 < Int.gcd y p := Int.gcd_pos_of_ne_zero_right y (by omega)
  obtain ⟨x', h1⟩ := Int.gcd_dvd_left x q
  obtain ⟨q', h2⟩ := Int.gcd_dvd_right x q
  obtain ⟨y', h3⟩ := Int.gcd_dvd_left y p
  obtain ⟨p', h4⟩ := Int.gcd_dvd_right y p
  show ((x / (Int.gcd x q : Int)) * (y / (Int.gcd y p : Int))) * (p * q) = (x * y) * ((p / (Int.gcd y p : Int)) * (q / (Int.gcd x q : Int)))
  generalize hf : Int.gcd x q = f at *
  generalize hs : Int.gcd y p = s at *
  have e1 : x / (f : Int) = x' := by rw [Int.ediv_eq_of_eq_mul_right (by omega) h1]
  have e2 : q / (f : Int) = q' := by rw [Int.ediv_eq_of_eq_mul_right (by omega) h2]
  have e3 : y / (s : Int) = y' := by rw [Int.ediv_eq_of_eq_mul_right (by omega) h3]
  have e4 : p / (s : Int) = p' := by rw [Int.ediv_eq_of_eq_mul_right (by omega) h4]
  rw [e1, e2, e3, e4, h1, h2, h3, h4]
  grind
theorem neg_nrm {b : F} (hb : Nrm b) : Nrm (-b.1, b.2) := ⟨hb.1, by
  show Int.gcd (-b.1) b.2 = 1
  rw [Int.neg_gcd]
  exact hb.2⟩
theorem minus_eq {a b : F} (ha : Nrm a) (hb : Nrm b) : minusM a b = nf (a.1 * b.2 - b.1 * a.2) (a.2 * b.2) := by
  unfold minusM
  rw [plus_eq ha (neg_nrm hb)]
  show nf (a.1 * b.2 + -b.1 * a.2) (a.2 * b.2) = _
  rw [Int.neg_mul, ← Int.sub_eq_add_neg]
theorem minus_nrm {a b : F} (ha : Nrm a) (hb : Nrm b) : Nrm (minusM a b) := plus_nrm ha (neg_nrm hb)
/-! ### sizes -/
def Sz (n : Nat) (a : F) : Prop := a.1.natAbs < 2 ^ n ∧ a.2.natAbs < 2 ^ n
theorem sz_le {x : Int} {m n : Nat} (h : x.natAbs < 2 ^ m) (hm : m ≤ n) : x.natAbs < 2 ^ n := Nat.lt_of_lt_of_le h (Nat.pow_le_pow_right (by decide) hm)
theorem Sz.mono {m n : Nat} {a : F} (h : Sz m a) (hm : m ≤ n) : Sz n a := ⟨sz_le h.1 hm, sz_le h.2 hm⟩
theorem sz_mul {x y : Int} {m n : Nat} (h : x.natAbs < 2 ^ m) (k : y.natAbs < 2 ^ n) : (x * y).natAbs < 2 ^ (m + n) := by
  rw [Int.natAbs_mul, Nat.pow_add]
  exact Nat.mul_lt_mul'' h k
theorem sz_add {x y : Int} {m : Nat} (h : x.natAbs < 2 ^ m) (k : y.natAbs < 2 ^ m) : (x + y).natAbs < 2 ^ (m + 1) := by
  rw [Nat.pow_succ]
  omega
theorem sz_sub {x y : Int} {m : Nat} (h : x.natAbs < 2 ^ m) (k : y.natAbs < 2 ^ m) : (x - y).natAbs < 2 ^ (m + 1) := by
  rw [Nat.pow_succ]
  omega
theorem sz_neg {x : Int} {m : Nat} (h : x.natAbs < 2 ^ m) : (-x).natAbs < 2 ^ m := by
  rw [Int.natAbs_neg]
  exact h
theorem sz_div {x y : Int} {m : Nat} (h : x.natAbs < 2 ^ m) (d : y ∣ x) : (x / y).natAbs < 2 ^ m := by
  rw [Int.natAbs_ediv_of_dvd d]
  exact Nat.lt_of_le_of_lt (Nat.div_le_self _ _) h
theorem sz_gcd {x y : Int} {m : Nat} (h : y.natAbs < 2 ^ m) (hy : y ≠ 0) : ((Int.gcd x y : Nat) : Int).natAbs < 2 ^ m := Nat.lt_of_le_of_lt (by rw [Int.natAbs_natCast]; exact Int.gcd_le_natAbs_right x hy) h
theorem sz_nf {n d : Int} {m : Nat} (h : n.natAbs < 2 ^ m) (k : d.natAbs < 2 ^ m) : Sz m (nf n d) := ⟨sz_div h (Int.gcd_dvd_left n d), sz_div k (Int.gcd_dvd_right n d)⟩
theorem sz_plus {a b : F} {m n : Nat} (ha : Nrm a) (hb : Nrm b) (h : Sz m a) (k : Sz n b) : Sz (m + n + 1) (plusM a b) := by
  rw [plus_eq ha hb]
  refine sz_nf (sz_add (sz_mul h.1 k.2) ?_) (sz_le (sz_mul h.2 k.2) (by omega))
  rw [Nat.add_comm m n]
  exact sz_mul k.1 h.2
theorem sz_minus {a b : F} {m n : Nat} (ha : Nrm a) (hb : Nrm b) (h : Sz m a) (k : Sz n b) : Sz (m + n + 1) (minusM a b) := sz_plus ha (neg_nrm hb) h ⟨sz_neg k.1, k.2⟩
theorem sz_times {a b : F} {m n : Nat} (ha : Nrm a) (hb : Nrm b) (h : Sz m a) (k : Sz n b) : Sz (m + n) (timesM a b) := by
  rw [times_eq ha hb]
  exact sz_nf (sz_mul h.1 k.1) (sz_mul h.2 k.2)
/-! ### the law's own gcd -/
theorem gcd_step (a b : Int) : Int.gcd b (a % b) = Int.gcd a b := by
  have e : a % b = a + (-(a / b)) * b := by
    rw [Int.emod_def]
    grind
  rw [Int.gcd_comm, e, gcd_add]
/-! ### the law's own -/
def lplus (a b : F) : F := lf (a.1 * b.2 + b.1 * a.2) (a.2 * b.2)
def lminus (a b : F) : F := lf (a.1 * b.2 - b.1 * a.2) (a.2 * b.2)
theorem lf_pos {n d : Int} (h : 0 < d) : lf n d = nf n d := by
  unfold lf
  exact if_neg (by omega)
theorem lplus_eq {a b : F} (ha : Nrm a) (hb : Nrm b) : lplus a b = plusM a b := by
  unfold lplus
  rw [lf_pos (Int.mul_pos ha.1 hb.1), plus_eq ha hb]
theorem lminus_eq {a b : F} (ha : Nrm a) (hb : Nrm b) : lminus a b = minusM a b := by
  unfold lminus
  rw [lf_pos (Int.mul_pos ha.1 hb.1), minus_eq ha hb]
/-! ### order, quotients -/
def less (a b : F) : Bool := decide (a.1 * b.2 < b.1 * a.2)
def cmpM (a b : F) : Int := if a.1 * b.2 < b.1 * a.2 then -1 else if b.1 * a.2 < a.1 * b.2 then 1 else 0
theorem le_trans {a b c : F} (ha : 0 < a.2) (hb : 0 < b.2) (hc : 0 < c.2) (h1 : a.1 * b.2 ≤ b.1 * a.2) (h2 : b.1 * c.2 ≤ c.1 * b.2) : a.1 * c.2 ≤ c.1 * a.2 := by
  have z1 : a.1 * b.2 * c.2 ≤ b.1 * a.2 * c.2 := Int.mul_le_mul_of_nonneg_right h1 (by omega)
  have z2 : b.1 * c.2 * a.2 ≤ c.1 * b.2 * a.2 := Int.mul_le_mul_of_nonneg_right h2 (by omega)
  have z3 : (a.1 * c.2) * b.2 ≤ (c.1 * a.2) * b.2 := by grind
  exact Int.le_of_mul_le_mul_right z3 hb
/-- the best of a row, by «is i before b» -/
def bestL (f : F → F → Bool) : F → List F → F := List.foldl fun b i => if f i b then i else b
theorem bestL_snoc (f : F → F → Bool) (x : F) (xs : List F) (i : F) : bestL f x (xs ++ [i]) = if f i (bestL f x xs) then i else bestL f x xs := by
  unfold bestL
  rw [List.foldl_append]
  rfl
theorem bestL_mem (f : F → F → Bool) : ∀ (xs : List F) (x : F), bestL f x xs = x ∨ bestL f x xs ∈ xs
  | [], x => .inl rfl
  | i :: xs, x => by
    have e : bestL f x (i :: xs) = bestL f (if f i x then i else x) xs := rfl
    rw [e]
    rcases bestL_mem f xs (if f i x then i else x) with h | h
    · rw [h]
      by_cases c : f i x = true
      · rw [if_pos c]
        exact .inr List.mem_cons_self
      · rw [if_neg c]
        exact .inl rfl
    · exact .inr (List.mem_cons_of_mem _ h)
/-! ### quotients -/
def invM (b : F) : F := if b.1 < 0 then (-b.2, -b.1) else (b.2, b.1)
def overM (a b : F) : F := timesM a (invM b)
theorem inv_nrm {b : F} (hb : Nrm b) (h : b.1 ≠ 0) : Nrm (invM b) := by
  unfold invM
  split
  · refine ⟨by show 0 < -b.1; omega, ?_⟩
    show Int.gcd (-b.2) (-b.1) = 1
    rw [Int.neg_gcd, Int.gcd_neg, Int.gcd_comm]
    exact hb.2
  · refine ⟨by show 0 < b.1; omega, ?_⟩
    show Int.gcd b.2 b.1 = 1
    rw [Int.gcd_comm]
    exact hb.2
end FR
namespace PL
open PySem PySem.Spec PyProof.Rows L2 FR
variable [Nm]
section
variable {K : PySem.W.Frag} {G : Hp}
theorem dpa_ints_inv : ∀ (ns : List Int) (xs : List V), DpAll K G xs (ns.map PyData.int) → xs = ns.map V.int
  | [], _, r => by
    cases r
    rfl
  | n :: ns, _, r => by
    cases r with
    | cons r1 r2 =>
      cases r1
      rw [dpa_ints_inv ns _ r2, List.map_cons]
theorem dpa_at {vs : List V} {ds : List PyData} {i : Int} {x : PyData} (r : DpAll K G vs ds) (h : atI ds i = some x) : ∃ v, atI vs i = some v ∧ Dp K G v x := by
  unfold atI at h ⊢
  rw [dpa_len r]
  cases e : ixN ds.length i with
  | none => rw [e] at h; simp at h
  | some j =>
    rw [e] at h
    exact dpa_get r h
end
section
variable {K : PySem.W.Frag} {ρ ρ1 : Rho} {I J L N : Asn} {ta tb tc te : TE} {d e : Dat} {t u : TT} {b c : Bool} {p : Addr} {C C' : DS}
theorem e_ixT' {ds : List PyData} {i : Int} {x : PyData} (ha : E K ta ρ I (.t ds) J) (hb : E K tb ρ J (.i i) L) (h : atI ds i = some x) : E K (tOp (rIxT K) ta tb) ρ I (.d x) L :=
  e_op ha hb fun G H a b gh lo dx dy Q q => by
    cases dx with
    | tup s r =>
      obtain rfl := dv_int dy
      obtain ⟨v, h1, h2⟩ := dpa_at r h
      exact ⟨_, _, _, v, rfl, rfl, same_t gh s, h1, q v G H (Same.refl _) gh lo h2⟩
/-! ### fractions as data -/
abbrev fr (a : F) : PyData := .tuple [.int a.1, .int a.2]
theorem e_f1 {a : F} (ha : E K ta ρ I (.d (fr a)) J) (hb : E K tb ρ J (.i 0) L) : E K (tOp (rIxT K) ta tb) ρ I (.i a.1) L := e_ixT' ha hb rfl
theorem e_f2 {a : F} (ha : E K ta ρ I (.d (fr a)) J) (hb : E K tb ρ J (.i 1) L) : E K (tOp (rIxT K) ta tb) ρ I (.i a.2) L := e_ixT' ha hb rfl
theorem e_frac {tr : TA} {x y : Int} {a : F} (hr : A K tr ρ I [.i x, .i y] J) (h : a = (x, y)) : E K (tTup tr) ρ I (.d (fr a)) J := by
  subst h
  exact e_tup hr (.cons (.cons .nil)) (show 2 ≤ 100000 by decide)
/-- a fraction in lowest terms below 2 ^ n -/
structure Ok (n : Nat) (a : F) : Prop where
  nrm : Nrm a
  sz : Sz n a
theorem Ok.mono {m n : Nat} {a : F} (h : Ok m a) (hm : m ≤ n) : Ok n a := ⟨h.nrm, h.sz.mono hm⟩
theorem ok_plus {m n : Nat} {a b : F} (h : Ok m a) (k : Ok n b) : Ok (m + n + 1) (plusM a b) := ⟨plus_nrm h.nrm k.nrm, sz_plus h.nrm k.nrm h.sz k.sz⟩
theorem ok_minus {m n : Nat} {a b : F} (h : Ok m a) (k : Ok n b) : Ok (m + n + 1) (minusM a b) := ⟨minus_nrm h.nrm k.nrm, sz_minus h.nrm k.nrm h.sz k.sz⟩
theorem ok_times {m n : Nat} {a b : F} (h : Ok m a) (k : Ok n b) : Ok (m + n) (timesM a b) := ⟨times_nrm h.nrm k.nrm, sz_times h.nrm k.nrm h.sz k.sz⟩
theorem ok_neg {n : Nat} {b : F} (k : Ok n b) : Ok n (-b.1, b.2) := ⟨neg_nrm k.nrm, sz_neg k.sz.1, k.sz.2⟩
theorem ok_lf {n : Nat} {x y : Int} (hy : y ≠ 0) (hx : x.natAbs < 2 ^ n) (hz : y.natAbs < 2 ^ n) : Ok n (lf x y) := by
  refine ⟨lf_nrm hy, ?_⟩
  unfold lf
  split
  · exact sz_nf (by rw [Int.zero_sub, Int.natAbs_neg]; exact hx) (by rw [Int.zero_sub, Int.natAbs_neg]; exact hz)
  · exact sz_nf hx hz
theorem divW {i j : Int} {n : Nat} (h : 0 < j) (hb : j.natAbs < 2 ^ n) (hn : n ≤ 9000) : CDivW i j := wide_div (b := 9000) h (sz_le hb hn) (by decide) (by decide)
theorem mulW {i j : Int} {m n : Nat} (ha : i.natAbs < 2 ^ m) (hb : j.natAbs < 2 ^ n) (h : m + n ≤ 900000) : CMulW i j := wide_mul (a := m + 1) (b := n + 1) (sz_le ha (by omega)) (sz_le hb (by omega)) (by omega) (by omega) (by omega)
/-! ### what the common defs promise -/
def RPlus (f : F → F → F) (ds : List Dat) (d : Dat) : Prop := ∃ a b : F, ds = [.d (fr a), .d (fr b)] ∧ Ok 4000 a ∧ Ok 4000 b ∧ d = .d (fr (f a b))
theorem RPlus.mk {f : F → F → F} {a b : F} {m n : Nat} (ha : Ok m a) (hb : Ok n b) (hm : m ≤ 4000 := by omega) (hn : n ≤ 4000 := by omega) : RPlus f [.d (fr a), .d (fr b)] (.d (fr (f a b))) := ⟨a, b, rfl, ha.mono hm, hb.mono hn, rfl⟩
theorem RPlus.len {f : F → F → F} {ds : List Dat} {d : Dat} (h : RPlus f ds d) : ds.length = 2 := by
  obtain ⟨a, b, rfl, _⟩ := h
  rfl
def RGcd (ds : List Dat) (d : Dat) : Prop := ∃ x y : Int, ds = [.i x, .i y] ∧ 0 ≤ x ∧ 0 ≤ y ∧ d = .i (Int.gcd x y : Int)
def RF (ds : List Dat) (d : Dat) : Prop := ∃ x y : Int, ds = [.i x, .i y] ∧ y ≠ 0 ∧ x.natAbs < 2 ^ 8500 ∧ y.natAbs < 2 ^ 8500 ∧ d = .d (fr (lf x y))
theorem RF.mk {x y : Int} {m n : Nat} (h0 : y ≠ 0) (hx : x.natAbs < 2 ^ m) (hy : y.natAbs < 2 ^ n) (hm : m ≤ 8500 := by omega) (hn : n ≤ 8500 := by omega) : RF [.i x, .i y] (.d (fr (lf x y))) := ⟨x, y, rfl, h0, sz_le hx hm, sz_le hy hn, rfl⟩
def RTake (ds : List Dat) (C : DS) (d : Dat) (C' : DS) : Prop := ∃ m : Int, ds = [.i m] ∧ DOk C ∧ 0 < m ∧ m.natAbs < 2 ^ 8500 ∧ d = .i (take C m).1 ∧ C' = (take C m).2
/-- draws from -m to m -/
def RSigned (ds : List Dat) (C : DS) (d : Dat) (C' : DS) : Prop := ∃ m : Int, ds = [.i m] ∧ DOk C ∧ 0 ≤ m ∧ m.natAbs < 2 ^ 8000 ∧ d = .i ((take C (2 * m + 1)).1 - m) ∧ C' = (take C (2 * m + 1)).2
def partM (C : DS) (m : Int) : F × DS :=
  let p := take C (2 * (m * 2) + 1)
  let q := take p.2 3
  (lf (p.1 - m * 2) (1 + q.1), q.2)
def RPart (ds : List Dat) (C : DS) (d : Dat) (C' : DS) : Prop := ∃ m : Int, ds = [.i m] ∧ DOk C ∧ 0 ≤ m ∧ m.natAbs < 2 ^ 7000 ∧ d = .d (fr (partM C m).1) ∧ C' = (partM C m).2
theorem part_ok {C : DS} {m : Int} {n : Nat} (h : DOk C) (hm : 0 ≤ m) (hn : m.natAbs < 2 ^ n) : DOk (partM C m).2 ∧ Ok (n + 2) (partM C m).1 := by
  obtain ⟨h1, h2, h3⟩ := take_ok (C := C) (m := 2 * (m * 2) + 1) h (by omega)
  obtain ⟨h4, h5, h6⟩ := take_ok (C := (take C (2 * (m * 2) + 1)).2) (m := 3) h1 (by omega)
  refine ⟨h4, ok_lf ?_ ?_ ?_⟩
  · omega
  · have : (2 : Nat) ^ (n + 2) = 4 * 2 ^ n := by rw [Nat.pow_add]; omega
    omega
  · have : (2 : Nat) ^ (n + 2) = 4 * 2 ^ n := by rw [Nat.pow_add]; omega
    have := Nat.one_le_two_pow (n := n)
    omega
def vecM (C : DS) (m : Int) : (F × F) × DS :=
  let p := partM C m
  let q := partM p.2 m
  ((p.1, q.1), q.2)
def RVec (ds : List Dat) (C : DS) (d : Dat) (C' : DS) : Prop := ∃ m : Int, ds = [.i m] ∧ DOk C ∧ 0 ≤ m ∧ m.natAbs < 2 ^ 7000 ∧ d = .d (.tuple [fr (vecM C m).1.1, fr (vecM C m).1.2]) ∧ C' = (vecM C m).2
/-- the script's list at the law's beginning -/
def spBegin (K : PySem.W.Frag) : Sp := fun vs H Q _ => ∃ (a : Addr) (ns : List Int) (G : Hp), vs = [.ref a] ∧ Same G H ∧ SqL K G a (ns.map V.int) ∧ ∀ G2 H2 p C, Stp NoA G H G2 H2 → DOk C → G2 p = none → H p = none → (dA K p C).ok G2 H2 → Q (.ref p) H2
theorem s_beginT {ts : TS} {X : XK} {tr : TA} {ns : List Int} {i : Nat} {k : Out} (hr : A K tr ρ I [.d (.list (ns.map PyData.int))] I) (h : ∀ p C, DOk C → ¬ I.foot p → S K ts (ρ.set i (some (.r p))) (dJ K p C I) k) : S K (tSeq (tAsg (tCall (spBegin K) [] X tr) (gName i)) ts) ρ I k := fun G H σ D gh en io f => hr G H σ gh en io _ fun vs G1 H1 g1 gh1 j1 dvs => by
  rw [List.append_nil]
  obtain ⟨v, rfl, h1⟩ := dva1 dvs
  cases h1 with
  | lst s r =>
    rename_i a xs
    obtain rfl := dpa_ints_inv ns xs r
    refine ⟨a, ns, G1, rfl, gh1, s, fun G2 H2 p C st ok gp hp k => ?_⟩
    refine h p C ok (fun z => ?_) G2 H2 _ D st.gh (env_set (d := .r p) rfl (env_mono (g1.trans st.gg) en)) ⟨k, Asn.pure_st st j1⟩ (f.mono (g1.trans st.gg))
    obtain ⟨o, ho⟩ := I.own G1 H1 p j1 z
    rw [ho] at hp
    cases hp
theorem s_rtT {ts : TS} (h : S K ts ρ I (.rt d J)) : S K ts ρ I (.rt d .tt) := fun G H σ D gh en io f => h G H σ D gh en io fun v G2 H2 g2 gh2 _ dv => f v G2 H2 g2 gh2 trivial dv
end
theorem gcd_abs {x y : Int} : Int.gcd (x.natAbs : Int) y = Int.gcd x y := by simp [Int.gcd]
theorem cxK {CX : CXT} {P : Program} {w : World} {K : PySem.W.Frag} {mg : Str → Option Value} {base : Heap} {N : List Str} {q : Str} {sc : Scope} {f : Addr} {cd : Value} {A : Around} {o : List Env} {s : Shared} {H : Hp} {E : XK} :
    (cxOf CX P w K mg base N q sc f cd A o s H E).K = K := rfl
section
variable {K : PySem.W.Frag} {ρ ρ1 : Rho} {I : Asn} {ta tb tc te : TE} {d e : Dat} {t u : TT} {b c : Bool} {ts us : TS} {k : Out}
/-! ### the same where nothing changes -/
theorem p_cons {tr : TA} {ds : List Dat} (ha : E K ta ρ I d I) (hr : A K tr ρ I ds I) : A K (tCons ta tr) ρ I (d :: ds) I := a_cons ha hr
theorem p_f1 {a : F} (ha : E K ta ρ I (.d (fr a)) I) : E K (tOp (rIxT K) ta (tC (.int 0))) ρ I (.i a.1) I := e_f1 ha e_int
theorem p_f2 {a : F} (ha : E K ta ρ I (.d (fr a)) I) : E K (tOp (rIxT K) ta (tC (.int 1))) ρ I (.i a.2) I := e_f2 ha e_int
theorem p_add {i j : Int} (ha : E K ta ρ I (.i i) I) (hb : E K tb ρ I (.i j) I) : E K (tOp (rI0 fun i j => .int (i + j)) ta tb) ρ I (.i (i + j)) I := e_add ha hb
theorem p_sub {i j : Int} (ha : E K ta ρ I (.i i) I) (hb : E K tb ρ I (.i j) I) : E K (tOp (rI0 fun i j => .int (i - j)) ta tb) ρ I (.i (i - j)) I := e_sub ha hb
theorem p_mul {i j : Int} (ha : E K ta ρ I (.i i) I) (hb : E K tb ρ I (.i j) I) (hc : CMulW i j) : E K (tOp (rI CMulW fun i j => .int (i * j)) ta tb) ρ I (.i (i * j)) I := e_mul ha hb hc
theorem p_div {i j : Int} (ha : E K ta ρ I (.i i) I) (hb : E K tb ρ I (.i j) I) (hc : CDivW i j) : E K (tOp (rI CDivW fun i j => .int (i / j)) ta tb) ρ I (.i (i / j)) I := e_div ha hb hc
theorem p_mod {i j : Int} (ha : E K ta ρ I (.i i) I) (hb : E K tb ρ I (.i j) I) (hc : 0 < j) : E K (tOp (rI (fun _ j => 0 < j) fun i j => .int (i % j)) ta tb) ρ I (.i (i % j)) I := e_mod ha hb hc
theorem p_pow {i j : Int} (ha : E K ta ρ I (.i i) I) (hb : E K tb ρ I (.i j) I) (hc : CPow i j) : E K (tOp (rI CPow fun i j => .int (i ^ j.toNat)) ta tb) ρ I (.i (i ^ j.toNat)) I := e_pow ha hb hc
theorem p_lt {i j : Int} (ha : E K ta ρ I (.i i) I) (hb : E K tb ρ I (.i j) I) : E K (tOp (rI0 fun i j => .bl (decide (i < j))) ta tb) ρ I (.b (decide (i < j))) I := e_lt ha hb
theorem p_le {i j : Int} (ha : E K ta ρ I (.i i) I) (hb : E K tb ρ I (.i j) I) : E K (tOp (rI0 fun i j => .bl (decide (i ≤ j))) ta tb) ρ I (.b (decide (i ≤ j))) I := e_le ha hb
theorem p_gt {i j : Int} (ha : E K ta ρ I (.i i) I) (hb : E K tb ρ I (.i j) I) : E K (tOp (rI0 fun i j => .bl (decide (j < i))) ta tb) ρ I (.b (decide (j < i))) I := e_gt ha hb
theorem p_ge {i j : Int} (ha : E K ta ρ I (.i i) I) (hb : E K tb ρ I (.i j) I) : E K (tOp (rI0 fun i j => .bl (decide (j ≤ i))) ta tb) ρ I (.b (decide (j ≤ i))) I := e_ge ha hb
theorem p_eqI {i j : Int} (ha : E K ta ρ I (.i i) I) (hb : E K tb ρ I (.i j) I) : E K (tOp rEq ta tb) ρ I (.b (decide (i = j))) I := e_eqI ha hb
theorem p_neI {i j : Int} (ha : E K ta ρ I (.i i) I) (hb : E K tb ρ I (.i j) I) : E K (tOp rNe ta tb) ρ I (.b (!decide (i = j))) I := e_neI ha hb
theorem p_neg {i : Int} (ha : E K ta ρ I (.i i) I) : E K (tUn (rU fun i => .int (-i)) ta) ρ I (.i (-i)) I := e_neg ha
theorem p_gcd {i j : Int} {tr : TA} (hr : A K tr ρ I [.i i, .i j] I) : E K (tCB rGcd tr) ρ I (.i (Int.gcd i j : Nat)) I := e_gcd hr
theorem p_int1 {i : Int} {tr : TA} (hr : A K tr ρ I [.i i] I) : E K (tCB (fun xs H Q => (∃ i, xs = [.int i] ∧ Q (.int i) H) ∨ ∃ k, xs = [.bl k] ∧ Q (.int (if k then 1 else 0)) H) tr) ρ I (.i i) I := e_int1 hr
theorem p_abs {i : Int} {tr : TA} (hr : A K tr ρ I [.i i] I) : E K (tCB (fun xs H Q => ∃ i, xs = [.int i] ∧ Q (.int (if i < 0 then -i else i)) H) tr) ρ I (.i (i.natAbs : Nat)) I := e_abs hr
theorem p_len {ds : List PyData} {tr : TA} (hr : A K tr ρ I [.d (.list ds)] I) : E K (tCB (fun xs H Q => ∃ p ys, xs = [.ref p] ∧ (SqL K H p ys ∨ SqT K H p ys) ∧ Q (.int ys.length) H) tr) ρ I (.i (ds.length : Nat)) I := e_len hr
theorem p_lenT {ds : List PyData} {tr : TA} (hr : A K tr ρ I [.t ds] I) : E K (tCB (fun xs H Q => ∃ p ys, xs = [.ref p] ∧ (SqL K H p ys ∨ SqT K H p ys) ∧ Q (.int ys.length) H) tr) ρ I (.i (ds.length : Nat)) I := e_lenT hr
theorem p_ixT {ds : List PyData} {i : Int} {x : PyData} (ha : E K ta ρ I (.t ds) I) (hb : E K tb ρ I (.i i) I) (h : atI ds i = some x) : E K (tOp (rIxT K) ta tb) ρ I (.d x) I := e_ixT' ha hb h
theorem p_i0 {ds : List PyData} {x : PyData} (ha : E K ta ρ I (.t (x :: ds)) I) : E K (tOp (rIxT K) ta (tC (.int 0))) ρ I (.d x) I := e_ixT (j := 0) ha e_int rfl
theorem p_i1 {ds : List PyData} {x y : PyData} (ha : E K ta ρ I (.t (x :: y :: ds)) I) : E K (tOp (rIxT K) ta (tC (.int 1))) ρ I (.d y) I := e_ixT (j := 1) ha e_int rfl
theorem p_i2 {ds : List PyData} {x y z : PyData} (ha : E K ta ρ I (.t (x :: y :: z :: ds)) I) : E K (tOp (rIxT K) ta (tC (.int 2))) ρ I (.d z) I := e_ixT (j := 2) ha e_int rfl
theorem p_call {T : Tbs} {R : List Dat → Dat → Prop} {X : XK} {tr : TA} {ds : List Dat} [HasT T I] (hr : A K tr ρ I ds I) (h : R ds d) : E K (tCall (spT K T R) [] X tr) ρ I d I := e_call hr h
theorem p_frac {tr : TA} {x y : Int} {a : F} (hr : A K tr ρ I [.i x, .i y] I) (h : a = (x, y)) : E K (tTup tr) ρ I (.d (fr a)) I := e_frac hr h
theorem p_tup {tr : TA} {ds : List Dat} {xs : List PyData} (hr : A K tr ρ I ds I) (hd : Ds ds xs) (hl : xs.length ≤ 100000) : E K (tTup tr) ρ I (.t xs) I := e_tup hr hd hl
theorem p_tup2 {tr : TA} {x y : PyData} (hr : A K tr ρ I [.d x, .d y] I) : E K (tTup tr) ρ I (.t [x, y]) I := e_tup hr (.cons (.cons .nil)) (show 2 ≤ 100000 by decide)
theorem p_asg {i : Nat} (h : E K te ρ I d I) : S K (tAsg te (gName i)) ρ I (.nx (ρ.set i (some d)) I) := s_asg h
theorem q_asg {i : Nat} (h : E K te ρ I d I) (h2 : S K us (ρ.set i (some d)) I k) : S K (tSeq (tAsg te (gName i)) us) ρ I k := s_seq (s_asg h) h2
theorem p_ret (h : E K te ρ I d I) : S K (tRet te) ρ I (.rt d I) := s_ret h
theorem p_par {i j : Nat} {tr : TA} (h : A K tr ρ I [d, e] I) : S K (tPar i j tr) ρ I (.nx ((ρ.set i (some d)).set j (some e)) I) := s_par h
theorem p_test (h : E K te ρ I (.b b) I) : T K (tTest te) ρ I b I := t_test h
theorem p_eqD {x y : PyData} (ha : E K ta ρ I (.d x) I) (hb : E K tb ρ I (.d y) I) (hx : SeqAt.shaped x = true) (hy : SeqAt.shaped y = true) : E K (tOp (rEqD K) ta tb) ρ I (.b (PyData.eqv x y)) I := e_eqD ha hb hx hy
theorem p_neD {x y : PyData} (ha : E K ta ρ I (.d x) I) (hb : E K tb ρ I (.d y) I) (hx : SeqAt.shaped x = true) (hy : SeqAt.shaped y = true) : E K (tOp (rNeD K) ta tb) ρ I (.b (!PyData.eqv x y)) I := e_neD ha hb hx hy
/-- an if by a test of known outcome; then what follows -/
theorem q_ifT {b : Bool} (h : T K t ρ I b I) (hb : b = true) (h2 : S K ts ρ I k) : S K (tIfS t ts us) ρ I k := s_ifT (hb ▸ h) h2
theorem q_ifF {b : Bool} (h : T K t ρ I b I) (hb : b = false) (h2 : S K us ρ I k) : S K (tIfS t ts us) ρ I k := s_ifF (hb ▸ h) h2
/-- an if without else that is not entered, ahead of the rest -/
theorem q_skip {b : Bool} {tr : TS} (h : T K t ρ I b I) (hb : b = false) (h2 : S K tr ρ I k) : S K (tSeq (tIfS t ts tNext) tr) ρ I k := s_seq (q_ifF h hb s_next) h2
variable {p : Addr} {C : DS} {J : Asn}
/-! ### the drawing list's items and stores -/
theorem d_ix0 (h : E K te ρ (dJ K p C J) (.r p) (dJ K p C J)) : E K (tOp (rIxL K) te (tC (.int 0))) ρ (dJ K p C J) (.d (.list (C.ns.map PyData.int))) (dJ K p C J) := e_dix (j := 0) h e_int rfl
theorem d_ix1 (h : E K te ρ (dJ K p C J) (.r p) (dJ K p C J)) : E K (tOp (rIxL K) te (tC (.int 1))) ρ (dJ K p C J) (.i (C.pos : Nat)) (dJ K p C J) := e_dix (j := 1) h e_int rfl
theorem d_ix2 (h : E K te ρ (dJ K p C J) (.r p) (dJ K p C J)) : E K (tOp (rIxL K) te (tC (.int 2))) ρ (dJ K p C J) (.i C.rest) (dJ K p C J) := e_dix (j := 2) h e_int rfl
theorem d_ix3 (h : E K te ρ (dJ K p C J) (.r p) (dJ K p C J)) : E K (tOp (rIxL K) te (tC (.int 3))) ρ (dJ K p C J) (.i C.seed) (dJ K p C J) := e_dix (j := 3) h e_int rfl
theorem d_set1 {n : Nat} {x : Int} (he : E K te ρ (dJ K p C J) (.i x) (dJ K p C J)) (hx : x = (n : Nat)) (h : E K ta ρ (dJ K p C J) (.r p) (dJ K p C J)) (hf : ¬ J.foot p) : S K (tAsg te (gSub ta (tC (.int 1)) rSetL)) ρ (dJ K p C J) (.nx ρ (dJ K p { C with pos := n } J)) := by
  subst hx
  exact s_dset (j := 1) (C' := { C with pos := n }) he h e_int (by decide) rfl ⟨rfl, rfl⟩ hf
theorem d_set2 {x : Int} (he : E K te ρ (dJ K p C J) (.i x) (dJ K p C J)) (h : E K ta ρ (dJ K p C J) (.r p) (dJ K p C J)) (hf : ¬ J.foot p) : S K (tAsg te (gSub ta (tC (.int 2)) rSetL)) ρ (dJ K p C J) (.nx ρ (dJ K p { C with rest := x } J)) :=
  s_dset (j := 2) (C' := { C with rest := x }) he h e_int (by decide) rfl ⟨rfl, rfl⟩ hf
theorem d_set3 {x : Int} (he : E K te ρ (dJ K p C J) (.i x) (dJ K p C J)) (h : E K ta ρ (dJ K p C J) (.r p) (dJ K p C J)) (hf : ¬ J.foot p) : S K (tAsg te (gSub ta (tC (.int 3)) rSetL)) ρ (dJ K p C J) (.nx ρ (dJ K p { C with seed := x } J)) :=
  s_dset (j := 3) (C' := { C with seed := x }) he h e_int (by decide) rfl ⟨rfl, rfl⟩ hf
theorem p_list {ds : List PyData} {tr : TA} (hr : A K tr ρ I [.d (.list ds)] I) : E K (tCB (fun xs H Q => ∃ p ys, xs = [.ref p] ∧ (SqL K H p ys ∨ SqT K H p ys) ∧ ∀ l, H l = none → Q (.ref l) (upd H l (.lst ys))) tr) ρ I (.d (.list ds)) I :=
  e_cb hr fun G H vs gh jo h Q q => by
    obtain ⟨v, rfl, h1⟩ := dva1 h
    cases h1 with
    | lst s r =>
      rename_i a xs
      refine ⟨_, _, rfl, .inl (gh.seq s), fun l hl => ?_⟩
      have st := Stp.new (o := .lst xs) gh hl
      exact q _ _ _ st.gg st.gh (Asn.pure_st st jo) (.lst (.inl (.inl upd_same)) (dp_monos st.gg ds _ r))
/-! ### the law's beginning -/
def seedF (s n : Int) : Int := (s * 69621 + n % 2147483629 + 7) % 2147483647
def seedAt (ns : List Int) : Nat → Int
  | 0 => 1
  | i + 1 => seedF (seedAt ns i) (ns.getD i 0)
theorem seed_ok (ns : List Int) (i : Nat) : 0 ≤ seedAt ns i ∧ seedAt ns i < 2147483647 := by
  cases i with
  | zero => exact ⟨(by decide : (0 : Int) ≤ 1), (by decide : (1 : Int) < 2147483647)⟩
  | succ i => exact ⟨Int.emod_nonneg _ (by decide), Int.emod_lt_of_pos _ (by decide)⟩
/-- what _law_begin leaves -/
def begP (K : PySem.W.Frag) (G0 H0 : Hp) (v : V) (G2 H2 : Hp) : Prop := ∃ p C, v = .ref p ∧ DOk C ∧ Stp NoA G0 H0 G2 H2 ∧ G2 p = none ∧ H0 p = none ∧ (dA K p C).ok G2 H2
theorem s_retBeg {G0 H0 : Hp} {tr : TA} {ns : List Int} {sd : Int} (hs : 0 ≤ sd ∧ sd < 2147483647) (hr : A K tr ρ (.since NoA G0 H0) [.d (.list (ns.map PyData.int)), .i 0, .i 0, .i sd] (.since NoA G0 H0)) : S K (tRet (tLst tr)) ρ (.since NoA G0 H0) (.fin (begP K G0 H0)) := fun G H σ D gh en io f => hr G H σ gh en io _ fun vs G1 H1 g1 gh1 j1 dvs => by
  match vs, dvs with
  | [v0, v1, v2, v3], ⟨h0, h1, h2, h3, _⟩ =>
    obtain rfl := dv_int h1
    obtain rfl := dv_int h2
    obtain rfl := dv_int h3
    cases h0 with
    | lst s r =>
      rename_i a xs
      obtain rfl := dpa_ints_inv ns xs r
      refine ⟨sz_of (show 4 ≤ 100000 by decide), fun p hp => ?_⟩
      have st := Stp.newM (o := HO.lst [.ref a, .int 0, .int 0, .int sd]) gh1 hp
      have gp : G1 p = none := gh1.free hp
      have hp0 : H0 p = none := by
        cases e : H0 p with
        | none => rfl
        | some u =>
          have j1' : Stp NoA G0 H0 G1 H1 := j1
          obtain ⟨x, hx⟩ := j1'.ex p u e
          rw [hx] at hp
          cases hp
      have j1' : Stp NoA G0 H0 G1 H1 := j1
      exact f _ G1 _ g1 st.gh ⟨p, ⟨a, ns, 0, 0, sd⟩, rfl, ⟨Int.le_refl _, hs⟩, j1'.trans st, gp, hp0, gp, upd_same, s⟩
theorem body_beg {ts : TS} {N : List Str} {vs : List V} {H : Hp} {Q : VK} {X : XK} (hb : ∀ (ns : List Int) G0 H0, S K ts (some (.d (.list (ns.map PyData.int))) :: List.replicate (N.length - 1) none) (.since NoA G0 H0) (.fin (begP K G0 H0))) (h : spBegin K vs H Q X) :
    ts { nx := fun _ H' => Q .non H', rt := Q } (L2.start N vs) H := by
  obtain ⟨a, ns, G, rfl, gh, s, q⟩ := h
  refine hb ns G H G H _ _ gh ?_ (Stp.refl gh) fun v G2 H2 g2 gh2 ⟨p, C, ev, ok, st, gp, hp, k⟩ => ?_
  · unfold L2.start
    exact env_start (vs := [.ref a]) (ds := [.d (.list (ns.map PyData.int))]) _ ⟨.lst s (dpa_ints ns), trivial⟩
  · subst ev
    exact q G2 H2 p C st ok gp hp k
end
/-! ### the law itself -/
/-- the tables as the law's run begins -/
theorem start_tabs {K : PySem.W.Frag} {H : Hp} {a : Addr} {xs : List V} {T : Tbs} (hS : SqL K H a xs) (hg : ∀ p ∈ T.gs, ∃ ps : Array Value, H p = some (.tbl ps) ∧ TriplesOk ps.toList ∧ p ∉ T.ls) (hl : ∀ p ∈ T.ls, H p = some (.tbl #[])) : ∃ G, Same G H ∧ SqL K G a xs ∧ TabsIn T G H := by
  have ne : ∀ b o, H b = some o → (∀ ps, o ≠ .tbl ps) → b ∉ T.ls := fun b o e n m => by
    rw [hl b m] at e
    exact n _ (Option.some.inj e).symm
  have at_ : ∀ b, b ∉ T.ls → (fun b => if b ∈ T.ls then none else H b) b = H b := fun b n => if_neg n
  refine ⟨fun b => if b ∈ T.ls then none else H b, fun b o e => ?_, ?_, fun p hp => ?_, fun p hp => ⟨if_pos hp, LamX.TabS.nil (hl p hp)⟩⟩
  · by_cases m : b ∈ T.ls
    · have e : (if b ∈ T.ls then none else H b) = some o := e
      rw [if_pos m] at e
      cases e
    · have e : (if b ∈ T.ls then none else H b) = some o := e
      rw [if_neg m] at e
      exact .of e
  · rcases hS with (h | ⟨o, h⟩) | h
    · exact .inl (.inl ((at_ a (ne a _ h fun _ z => by cases z)).trans h))
    · exact .inl (.inr ⟨o, (at_ a (ne a _ h fun _ z => by cases z)).trans h⟩)
    · exact .inr h
  · obtain ⟨ps, e, t, n⟩ := hg p hp
    exact ⟨ps, (at_ p n).trans e, t⟩
def spLawT (K : PySem.W.Frag) (T : Tbs) : Sp := fun vs H Q _ => ∃ (a : Addr) (ns : List Int), vs = [.ref a] ∧ SqL K H a (ns.map V.int) ∧ ns.length ≤ 63 ∧ (∃ G, Same G H ∧ SqL K G a (ns.map V.int) ∧ TabsIn T G H) ∧ ∀ H', Q (.bl true) H'
theorem len_LT {K : PySem.W.Frag} {T : Tbs} {vs : List V} {H : Hp} {Q : VK} {X : XK} (h : spLawT K T vs H Q X) : vs.length = 1 := by
  obtain ⟨_, _, rfl, _⟩ := h
  rfl
theorem body_LT {K : PySem.W.Frag} {T : Tbs} {ts : TS} {N : List Str} {vs : List V} {H : Hp} {Q : VK} {X : XK} (hb : ∀ ns : List Int, ns.length ≤ 63 → S K ts (some (.d (.list (ns.map PyData.int))) :: List.replicate (N.length - 1) none) (.tab T) (.rt (.b true) .tt)) (h : spLawT K T vs H Q X) :
    ts { nx := fun _ H' => Q .non H', rt := Q } (L2.start N vs) H := by
  obtain ⟨a, ns, rfl, _, hl, ⟨G, gh, s, tb⟩, q⟩ := h
  refine hb ns hl G H _ _ gh ?_ tb fun v G2 H2 g2 gh2 _ dv => ?_
  · unfold L2.start
    exact env_start (vs := [.ref a]) (ds := [.d (.list (ns.map PyData.int))]) _ ⟨.lst s (dpa_ints ns), trivial⟩
  · obtain rfl := dv_bl dv
    exact q H2
/-- two vectors -/
def RVec2 (f : F → F → F) (ds : List Dat) (d : Dat) : Prop := ∃ a b x y : F, ds = [.t [fr a, fr b], .t [fr x, fr y]] ∧ Ok 4000 a ∧ Ok 4000 b ∧ Ok 4000 x ∧ Ok 4000 y ∧ d = .t [fr (f a x), fr (f b y)]
theorem RVec2.len {f : F → F → F} {ds : List Dat} {d : Dat} (h : RVec2 f ds d) : ds.length = 2 := by
  obtain ⟨_, _, _, _, rfl, _⟩ := h
  rfl
theorem RVec2.mk {f : F → F → F} {a b x y : F} {m n : Nat} (ha : Ok m a) (hb : Ok m b) (hx : Ok n x) (hy : Ok n y) (hm : m ≤ 4000 := by omega) (hn : n ≤ 4000 := by omega) : RVec2 f [.t [fr a, fr b], .t [fr x, fr y]] (.t [fr (f a x), fr (f b y)]) := ⟨a, b, x, y, rfl, ha.mono hm, hb.mono hm, hx.mono hn, hy.mono hn, rfl⟩
end PL
namespace PL
open PySem PySem.Spec PyProof.Rows L2 FR
variable [Nm]
/-! ### defs that may raise -/
inductive Res where
  | ok (d : Dat)
  | err (C : Addr)
def RPost (K : PySem.W.Frag) (G H : Hp) (Q : VK) (X : XK) : Res → Prop
  | .ok d => ∀ v G2 H2, Stp NoA G H G2 H2 → Dv K G2 v d → Q v H2
  | .err C => ∀ G2 H2, Stp NoA G H G2 H2 → X (.ref C) none H2
def spXT (K : PySem.W.Frag) (T : Tbs) (R : List Dat → Res → Prop) : Sp := fun vs H Q X => ∃ G ds r, Same G H ∧ DvAll K G vs ds ∧ R ds r ∧ TabsIn T G H ∧ RPost K G H Q X r
abbrev spX (K : PySem.W.Frag) (R : List Dat → Res → Prop) : Sp := spXT K noT R
def outR (I : Asn) : Res → Out
  | .ok d => .rt d I
  | .err _ => .fin fun _ _ _ => False
section
variable {K : PySem.W.Frag} {ρ ρ1 : Rho} {I J L N : Asn} {ta tb tc te : TE} {d e : Dat} {t u : TT} {b c : Bool} {ts us : TS} {k : Out} {R : List Dat → Res → Prop} {tr : TA} {ds : List Dat} {tabs : Tbs}
theorem len_X {n : Nat} (hl : ∀ ds r, R ds r → ds.length = n) {vs : List V} {H : Hp} {Q : VK} {X : XK} (h : spXT K tabs R vs H Q X) : vs.length = n := by
  obtain ⟨G, ds, r, gh, dvs, hr, _, q⟩ := h
  rw [dva_len dvs, hl ds r hr]
theorem e_callX {X : XK} [hT : HasT tabs J] (hr : A K tr ρ I ds J) (h : R ds (.ok d)) : E K (tCall (spXT K tabs R) [] X tr) ρ I d J := fun G H σ gh en io Q q => hr G H σ gh en io _ fun vs G1 H1 g1 gh1 j1 dvs => by
  rw [List.append_nil]
  exact ⟨G1, ds, .ok d, gh1, dvs, h, hT.get _ _ j1, fun v G2 H2 s dv => q v G2 H2 (g1.trans s.gg) s.gh (Asn.pure_st s j1) dv⟩
/-- a call that raises: nothing behind it is looked at -/
theorem e_callE {X : XK} {C : Addr} [hT : HasT tabs J] (hr : A K tr ρ I ds J) (h : R ds (.err C)) (hx : ∀ G H, J.ok G H → X (.ref C) none H) : E K (tCall (spXT K tabs R) [] X tr) ρ I d L := fun G H σ gh en io Q q => hr G H σ gh en io _ fun vs G1 H1 g1 gh1 j1 dvs => by
  rw [List.append_nil]
  exact ⟨G1, ds, .err C, gh1, dvs, h, hT.get _ _ j1, fun G2 H2 s => hx G2 H2 (Asn.pure_st s j1)⟩
theorem body_XT {N : List Str} {vs : List V} {H : Hp} {Q : VK} {X : XK} (hb : ∀ ds r, R ds r → ∀ I : Asn, HasT tabs I → (∀ C, r = .err C → ∀ G H, I.ok G H → X (.ref C) none H) → S K ts (ds.map some ++ List.replicate (N.length - ds.length) none) I (outR I r)) (h : spXT K tabs R vs H Q X) :
    ts { nx := fun _ H' => Q .non H', rt := Q } (L2.start N vs) H := by
  obtain ⟨G, ds, r, gh, dvs, hr, tb, q⟩ := h
  have en : EnvD K G (L2.start N vs) (ds.map some ++ List.replicate (N.length - ds.length) none) := by
    unfold L2.start
    rw [dva_len dvs]
    exact env_start _ dvs
  cases r with
  | ok d => exact hb ds _ hr ((Asn.since NoA G H).and (Asn.tab tabs)) inferInstance (fun C z => by cases z) G H _ _ gh en ⟨Stp.refl gh, tb⟩ fun v G2 H2 g2 gh2 j2 dv => q v G2 H2 j2.1 dv
  | err C =>
    refine hb ds _ hr ((Asn.since NoA G H).and (Asn.tab tabs)) inferInstance (fun C' z G2 H2 j2 => ?_) G H _ _ gh en ⟨Stp.refl gh, tb⟩ fun v G2 H2 g2 gh2 z => z.elim
    cases z
    exact q G2 H2 j2.1
theorem body_X {N : List Str} {vs : List V} {H : Hp} {Q : VK} {X : XK} (hb : ∀ ds r, R ds r → ∀ I : Asn, (∀ C, r = .err C → ∀ G H, I.ok G H → X (.ref C) none H) → S K ts (ds.map some ++ List.replicate (N.length - ds.length) none) I (outR I r)) (h : spX K R vs H Q X) :
    ts { nx := fun _ H' => Q .non H', rt := Q } (L2.start N vs) H := body_XT (fun ds r hr I _ => hb ds r hr I) h
/-- a def that ends without a return -/
theorem body_XNT {N : List Str} {vs : List V} {H : Hp} {Q : VK} {X : XK} (hb : ∀ ds r, R ds r → ∀ I : Asn, HasT tabs I → (∀ C, r = .err C → ∀ G H, I.ok G H → X (.ref C) none H) →
      (r = .ok (.d .none) ∧ ∃ ρ1, S K ts (ds.map some ++ List.replicate (N.length - ds.length) none) I (.nx ρ1 I)) ∨ (∃ C, r = .err C ∧ ∀ k, S K ts (ds.map some ++ List.replicate (N.length - ds.length) none) I k)) (h : spXT K tabs R vs H Q X) :
    ts { nx := fun _ H' => Q .non H', rt := Q } (L2.start N vs) H := by
  obtain ⟨G, ds, r, gh, dvs, hr, tb, q⟩ := h
  have en : EnvD K G (L2.start N vs) (ds.map some ++ List.replicate (N.length - ds.length) none) := by
    unfold L2.start
    rw [dva_len dvs]
    exact env_start _ dvs
  have hx : ∀ C, r = .err C → ∀ G2 H2, ((Asn.since NoA G H).and (Asn.tab tabs)).ok G2 H2 → X (.ref C) none H2 := fun C z G2 H2 j2 => by
    subst z
    exact q G2 H2 j2.1
  rcases hb ds r hr ((Asn.since NoA G H).and (Asn.tab tabs)) inferInstance hx with ⟨rfl, ρ1, hs⟩ | ⟨C, rfl, hk⟩
  · exact hs G H _ _ gh en ⟨Stp.refl gh, tb⟩ fun G2 H2 σ2 g2 gh2 en2 j2 => q .non G2 H2 j2.1 .non
  · exact hk (.fin fun _ _ _ => False) G H _ _ gh en ⟨Stp.refl gh, tb⟩ fun v G2 H2 g2 gh2 z => z.elim
theorem body_XN {N : List Str} {vs : List V} {H : Hp} {Q : VK} {X : XK} (hb : ∀ ds r, R ds r → ∀ I : Asn, (∀ C, r = .err C → ∀ G H, I.ok G H → X (.ref C) none H) →
      (r = .ok (.d .none) ∧ ∃ ρ1, S K ts (ds.map some ++ List.replicate (N.length - ds.length) none) I (.nx ρ1 I)) ∨ (∃ C, r = .err C ∧ ∀ k, S K ts (ds.map some ++ List.replicate (N.length - ds.length) none) I k)) (h : spX K R vs H Q X) :
    ts { nx := fun _ H' => Q .non H', rt := Q } (L2.start N vs) H := body_XNT (fun ds r hr I _ => hb ds r hr I) h
theorem s_raise' (h : ∀ G H σ (D : Ends), Same G H → I.ok G H → ts D σ H) : S K ts ρ I k := fun G H σ D gh en io f => h G H σ D gh io
/-- a statement that raises, whatever follows -/
theorem s_dropE (h : E K te ρ I d L) (hL : ∀ G H, ¬ L.ok G H) : S K (tDrop te) ρ I k := fun G H σ D gh en io f => h G H σ gh en io _ fun v G1 H1 g1 gh1 j1 dv => absurd j1 (hL G1 H1)
def Asn.no : Asn := ⟨NoA, fun _ _ => False, fun _ _ _ _ _ _ _ h => h, fun _ _ _ z => z.elim⟩
/-- an if that raises, ahead of the rest -/
theorem s_err (h : S K ts ρ I (.fin fun _ _ _ => False)) : S K (tSeq ts us) ρ I (.fin fun _ _ _ => False) := fun G H σ D gh en io f => h G H σ _ gh en io f
/-! ### isinstance -/
end
/-! ### lists that may change -/
section
variable {K : PySem.W.Frag} {ρ ρ1 : Rho} {I J L N : Asn} {ta tb tc te : TE} {d e : Dat} {t u : TT} {b c : Bool} {ts us : TS} {k : Out} {tr : TA} {q : Addr} {ds : List PyData} {x : PyData}
def lA (K : PySem.W.Frag) (q : Addr) (ds : List PyData) : Asn := ⟨(· = q), fun G H => G q = none ∧ ∃ vs, H q = some (.lst vs) ∧ DpAll K G vs ds, fun M G H G2 H2 n s ⟨g, vs, h, r⟩ => ⟨s.fr q _ (n q rfl) h g, vs, s.hh q _ (n q rfl) h, dp_monos s.gg ds vs r⟩, fun G H a ⟨_, vs, h, _⟩ (z : a = q) => ⟨.lst vs, by rw [z]; exact h⟩⟩
abbrev lJ (K : PySem.W.Frag) (q : Addr) (ds : List PyData) (J : Asn) : Asn := (lA K q ds).and J
theorem Stp.frz {G H : Hp} {o : HO} (gh : Same G H) (gq : G q = none) (hq : H q = some o) (nt : ∀ ps, o ≠ .tbl ps := by exact fun _ z => by cases z) : Stp (· = q) G H (upd G q o) H := by
  refine ⟨same_new gq, fun a u e => ?_, fun _ _ _ e => .of e, fun a o n e g => ?_, fun a o e => ⟨o, e⟩, fun P t => ?_⟩
  rotate_left
  · rw [upd_ne n]
    exact g
  · obtain ⟨ps, hP⟩ := t.some
    have ne : P ≠ q := fun z => by
      rw [z, hq] at hP
      exact nt ps (Option.some.inj hP)
    exact t.keep (fun g => by rw [upd_ne ne]; exact g) fun b o e _ _ => e
  · by_cases z : a = q
    · subst z
      rw [upd_same] at e
      rw [hq]
      exact .of e
    · rw [upd_ne z] at e
      exact gh a u e
/-- x = [] -/
theorem s_newL {i : Nat} (h : ∀ q, ¬ I.foot q → S K us (ρ.set i (some (.r q))) (lJ K q [] I) k) : S K (tSeq (tAsg (tLst tNil) (gName i)) us) ρ I k := fun G H σ D gh en io f =>
  ⟨Nat.zero_le _, fun p hp => by
    have s := Stp.newM (o := HO.lst []) gh hp
    have gp : G p = none := gh.free hp
    refine h p (fun z => ?_) G _ _ D s.gh (env_set (d := .r p) rfl en) ⟨⟨gp, [], upd_same, .nil⟩, Asn.pure_st s io⟩ f
    obtain ⟨o, ho⟩ := I.own G H p io z
    rw [ho] at hp
    cases hp⟩
/-- x.append(e) -/
theorem s_app {i : Nat} (he : E K te ρ (lJ K q ds J) (.d x) (lJ K q ds J)) (hi : ρ[i]? = some (some (.r q))) (hl : ds.length < 100000) (hf : ¬ J.foot q) : S K (tDrop (tBM K "list" rAppend (tVar i) (tCons te tNil))) ρ (lJ K q ds J) (.nx ρ (lJ K q (ds ++ [x]) J)) := fun G H σ D gh en io f => by
  obtain ⟨v, hv, rfl⟩ := env_get en hi
  have io' := io
  obtain ⟨⟨gq, vs, hq, r⟩, jo⟩ := io
  refine ⟨.ref q, hv, .inl ⟨rfl, _, .inl (.inl hq)⟩, he G H σ gh en io' _ fun v G1 H1 g1 gh1 j1 dv => ?_⟩
  obtain ⟨⟨gq1, vs1, hq1, r1⟩, jo1⟩ := j1
  have s := Stp.store (o := HO.lst (vs1 ++ [v])) gh1 gq1 hq1
  refine ⟨q, vs1, v, rfl, rfl, hq1, ?_, ?_⟩
  · rw [dpa_len r1]
    exact Nat.lt_of_lt_of_le hl (by decide)
  · exact f G1 _ σ g1 s.gh (env_mono g1 en) ⟨⟨gq1, _, upd_same, dpa_app r1 (.cons dv .nil)⟩, J.st _ _ _ _ _ (fun a fa (z : a = q) => hf (z ▸ fa)) s jo1⟩
theorem env_put {G : Hp} {i : Nat} (hx : Dp K G (.ref q) x) : ∀ {σ : List (Option V)} {ρ : Rho} {i : Nat}, EnvD K G σ ρ → ρ[i]? = some (some (.r q)) → EnvD K G σ (ρ.set i (some (.d x)))
  | [], [], _, _, e => by simp at e
  | s :: _, o :: _, 0, h, e => by
    have eo : o = some (.r q) := by simpa using e
    obtain ⟨h1, h2⟩ := h
    rw [eo] at h1
    obtain ⟨v, h3, h4⟩ := h1
    exact ⟨⟨v, h3, by rw [show v = V.ref q from h4]; exact hx⟩, h2⟩
  | _ :: σ, _ :: ρ, i + 1, h, e => ⟨h.1, env_put hx (i := i) h.2 (by simpa using e)⟩
  | [], _ :: _, _, h, _ => h.elim
  | _ :: _, [], _, h, _ => h.elim
/-- the list at q changes no more -/
theorem s_freeze {i : Nat} (hi : ρ[i]? = some (some (.r q))) (hf : ¬ J.foot q) (hs : S K ts (ρ.set i (some (.d (.list ds)))) J k) : S K ts ρ (lJ K q ds J) k := fun G H σ D gh en io f => by
  obtain ⟨⟨gq, vs, hq, r⟩, jo⟩ := io
  have s : Stp (· = q) G H (upd G q (.lst vs)) H := Stp.frz gh gq hq
  refine hs (upd G q (.lst vs)) H σ D s.gh (env_put (x := .list ds) (i := i) (.lst (.inl (.inl upd_same)) (dp_monos s.gg ds vs r)) (env_mono s.gg en) hi) (J.st _ _ _ _ _ (fun a fa (z : a = q) => hf (z ▸ fa)) s jo) (f.mono s.gg)
/-! ### comprehensions -/
theorem env_none {G : Hp} : ∀ {σ : List (Option V)} {ρ : Rho} {i : Nat}, EnvD K G σ ρ → EnvD K G (σ.set i none) (ρ.set i none)
  | [], [], _, _ => trivial
  | _ :: _, _ :: _, 0, h => ⟨trivial, h.2⟩
  | _ :: σ, _ :: ρ, i + 1, h => ⟨h.1, env_none (i := i) h.2⟩
  | [], _ :: _, _, h => h.elim
  | _ :: _, [], _, h => h.elim
abbrev rTupOf (K : PySem.W.Frag) : List V → Hp → VK → Prop := fun xs H Q => ∃ p ys, xs = [.ref p] ∧ ((SqL K H p ys ∧ ∀ l, H l = none → Q (.ref l) (upd H l (.tup ys))) ∨ (SqT K H p ys ∧ Q (.ref p) H))
theorem e_tupOf (hr : A K tr ρ I [.d (.list ds)] J) : E K (tCB (fun xs H Q => ∃ p ys, xs = [.ref p] ∧ ((SqL K H p ys ∧ ∀ l, H l = none → Q (.ref l) (upd H l (.tup ys))) ∨ (SqT K H p ys ∧ Q (.ref p) H))) tr) ρ I (.t ds) J :=
  e_cb hr fun G H vs gh jo h Q q => by
    obtain ⟨v, rfl, h1⟩ := dva1 h
    cases h1 with
    | lst s r =>
      rename_i a xs
      refine ⟨_, _, rfl, .inl ⟨gh.seq s, fun l hl => ?_⟩⟩
      have st := Stp.new (o := .tup xs) gh hl
      exact q _ _ _ st.gg st.gh (Asn.pure_st st jo) (.tup (.inl (.inl upd_same)) (dp_monos st.gg ds _ r))
theorem s_forT {tl : TE} {j : Nat} (P : Nat → Rho) (V : Nat → Asn) (hl : E K tl ρ I (.t ds) (V 0)) (h0 : ρ = P 0)
    (turn : ∀ i x, ds[i]? = some x → S K ts ((P i).set j (some (.d x))) (V i) (.nx (P (i + 1)) (V (i + 1)))) : S K (tFor (iTup K tl) (gName j) ts) ρ I (.nx (P ds.length) (V ds.length)) := fun G H σ D gh en io f => by
  refine hl G H σ gh en io _ fun v G1 H1 g1 gh1 j1 dv => ?_
  cases dv with
  | tup s r =>
    rename_i a xs
    subst h0
    refine ⟨a, rfl, ⟨_, same_t gh1 s⟩, for_tup (xs := xs) (fun i σ' H' => ∃ G', Same G1 G' ∧ Same G' H' ∧ EnvD K G' σ' (P i) ∧ (V i).ok G' H') ⟨G1, Same.refl _, gh1, env_mono g1 en, j1⟩ (fun i σ' H' _ ⟨G', a1, a2, _⟩ => same_t (a1.trans a2) s) (fun i x σ' H' hx ⟨G', a1, a2, a3, a4⟩ => ?_) (fun σ' H' ⟨G', a1, a2, a3, a4⟩ => ?_)⟩
    · have hi : i < xs.length := (List.getElem?_eq_some_iff.mp hx).1
      have hi2 : i < ds.length := by rw [← dpa_len r]; exact hi
      obtain ⟨w, h1, h2⟩ := dpa_get r (List.getElem?_eq_getElem hi2)
      rw [hx] at h1
      obtain rfl := Option.some.inj h1
      exact turn i _ (List.getElem?_eq_getElem hi2) G' H' _ _ a2 (env_set (d := .d _) (dp_mono a1 _ _ h2) a3) a4 fun G2 H2 σ2 g2 gh2 en2 j2 => ⟨G2, a1.trans g2, gh2, en2, j2⟩
    · rw [dpa_len r] at a3 a4
      exact f G' H' σ' (g1.trans a1) a2 a3 a4
end
end PL
namespace PL
open PySem PySem.Spec PyProof.Rows L2 FR
/-! ### zip of three tuples -/
end PL
namespace PL
open PySem PySem.Spec PyProof.Rows L2 FR
variable [Nm]
section
variable {K : PySem.W.Frag} {ρ ρ1 ρ2 : Rho} {I J L N : Asn} {ta tb tc te : TE} {d e : Dat} {t u : TT} {b c : Bool} {ts us : TS} {k : Out} {tr : TA} {q : Addr} {ds : List PyData} {x y : PyData}
/-! ### targets -/
def GJ (K : PySem.W.Frag) (g : TG) (x : PyData) (ρ ρ' : Rho) : Prop := ∀ G H σ v (Q : L2.St → Hp → Prop), Same G H → EnvD K G σ ρ → Dp K G v x → (∀ σ', EnvD K G σ' ρ' → Q σ' H) → g v σ H Q
def GJs (K : PySem.W.Frag) (g : TGs) (xs : List PyData) (ρ ρ' : Rho) : Prop := ∀ G H σ vs (Q : L2.St → Hp → Prop), Same G H → EnvD K G σ ρ → DpAll K G vs xs → (∀ σ', EnvD K G σ' ρ' → Q σ' H) → g vs σ H Q
theorem g_name {i : Nat} : GJ K (gName i) x ρ (ρ.set i (some (.d x))) := fun G H σ v Q gh en dv q => q _ (env_set (d := .d x) dv en)
theorem g_tup {g : TGs} {n : Nat} (hn : ds.length = n) (h : GJs K g ds ρ ρ1) : GJ K (gTup K n g) (.tuple ds) ρ ρ1 := fun G H σ v Q gh en dv q => by
  cases dv with
  | tup s r => exact ⟨_, _, rfl, same_t gh s, by rw [dpa_len r, hn], h G H σ _ Q gh en r q⟩
theorem g_nil : GJs K gNil [] ρ ρ := fun G H σ vs Q gh en dv q => by
  cases dv
  exact ⟨rfl, q σ en⟩
theorem g_cons {g : TG} {gs : TGs} (h : GJ K g x ρ ρ1) (hs : GJs K gs ds ρ1 ρ2) : GJs K (gCons g gs) (x :: ds) ρ ρ2 := fun G H σ vs Q gh en dv q => by
  cases dv with
  | cons a b => exact ⟨_, _, rfl, h G H σ _ _ gh en a fun σ' en' => hs G H σ' _ Q gh en' b q⟩
theorem s_asgG {g : TG} (h : E K te ρ I (.d x) J) (hg : GJ K g x ρ ρ1) : S K (tAsg te g) ρ I (.nx ρ1 J) := fun G H σ D gh en io f => h G H σ gh en io _ fun v G1 H1 g1 gh1 j1 dv => hg G1 H1 σ v _ gh1 (env_mono g1 en) dv fun σ' en' => f G1 H1 σ' g1 gh1 en' j1
/-! ### for, with any target, that may be left by a return in turn m -/
def Out.isRt (k : Out) : Prop := ∃ d J, k = .rt d J
/-- the turns: turn i goes on for i < m; m is the end, or turn m returns -/
structure Turns (K : PySem.W.Frag) (g : TG) (ts : TS) (xs : Nat → Option PyData) (n : Nat) (P : Nat → Rho) (V : Nat → Asn) (m : Nat) (k : Out) : Prop where
  le : m ≤ n
  go : ∀ i x, i < m → xs i = some x → ∃ ρ', GJ K g x (P i) ρ' ∧ S K ts ρ' (V i) (.nx (P (i + 1)) (V (i + 1)))
  fin : (m = n ∧ k = .nx (P n) (V n)) ∨ (m < n ∧ k.isRt ∧ ∀ x, xs m = some x → ∃ ρ', GJ K g x (P m) ρ' ∧ S K ts ρ' (V m) k)
theorem Turns.all {g : TG} {xs : Nat → Option PyData} {n : Nat} {P : Nat → Rho} {V : Nat → Asn} (go : ∀ i x, i < n → xs i = some x → ∃ ρ', GJ K g x (P i) ρ' ∧ S K ts ρ' (V i) (.nx (P (i + 1)) (V (i + 1)))) : Turns K g ts xs n P V n (.nx (P n) (V n)) := ⟨Nat.le_refl _, go, .inl ⟨rfl, rfl⟩⟩
/-- one turn, at the item v (data x): what the loop's rules ask -/
theorem Turns.turn {g : TG} {xs : Nat → Option PyData} {n : Nat} {P : Nat → Rho} {V : Nat → Asn} {m : Nat} (T : Turns K g ts xs n P V m k) {D : Ends} {G0 G' H : Hp} {σ : L2.St} {i : Nat} {v : L2.V} (f : Fin K D G0 k) (hi : i < n) (him : i ≤ m) (hx : xs i = some x) (a1 : Same G0 G') (a2 : Same G' H) (en : EnvD K G' σ (P i)) (vo : (V i).ok G' H) (dv : Dp K G' v x) :
    ∃ N : L2.St → Hp → Prop, (∀ σ' H', N σ' H' → i < m ∧ ∃ G2, Same G0 G2 ∧ Same G2 H' ∧ EnvD K G2 σ' (P (i + 1)) ∧ (V (i + 1)).ok G2 H') ∧ g v σ H fun σ2 H2 => ts { D with nx := N, ct := N, bk := D.nx } σ2 H2 := by
  by_cases c : i < m
  · obtain ⟨ρ', hg, hs⟩ := T.go i x c hx
    refine ⟨fun σ' H' => i < m ∧ ∃ G2, Same G0 G2 ∧ Same G2 H' ∧ EnvD K G2 σ' (P (i + 1)) ∧ (V (i + 1)).ok G2 H', fun _ _ z => z, ?_⟩
    exact hg G' H σ v _ a2 en dv fun σ' en' => hs G' H σ' _ a2 en' vo fun G2 H2 σ2 g2 gh2 en2 j2 => ⟨c, G2, a1.trans g2, gh2, en2, j2⟩
  · obtain rfl : i = m := by omega
    rcases T.fin with ⟨e, _⟩ | ⟨_, hk, ht⟩
    · omega
    · obtain ⟨ρ', hg, hs⟩ := ht x hx
      obtain ⟨d, J, rfl⟩ := hk
      refine ⟨fun _ _ => False, fun _ _ z => z.elim, ?_⟩
      exact hg G' H σ v _ a2 en dv fun σ' en' => hs G' H σ' _ a2 en' vo (f.mono a1 : Fin K D G' (.rt d J))
/-! ### new lists -/
theorem e_lstL {ds : List Dat} {xs : List PyData} (hr : A K tr ρ I ds J) (hd : Ds ds xs) (hl : xs.length ≤ 100000) : E K (tLst tr) ρ I (.l xs) J :=
  fun G H σ gh en io Q q => hr G H σ gh en io _ fun vs G1 H1 g1 gh1 j1 dxs => by
    have r : DpAll K G1 vs xs := dva_dp (by rw [← hd.map]; exact dxs)
    refine ⟨by rw [dpa_len r]; exact sz_of hl, fun p hp => ?_⟩
    have s := Stp.new (o := .lst vs) gh1 hp
    exact q _ _ _ (g1.trans s.gg) s.gh (Asn.pure_st s j1) ⟨p, vs, rfl, upd_same, dp_monos s.gg xs vs r⟩
theorem e_l2d (h : E K te ρ I (.l ds) J) : E K te ρ I (.d (.list ds)) J := fun G H σ gh en io Q q => h G H σ gh en io Q fun v G1 H1 g1 gh1 j1 ⟨a, vs, ev, ha, r⟩ => q v G1 H1 g1 gh1 j1 (by rw [ev]; exact .lst (.inl (.inl ha)) r)
theorem cut_to {α : Type} {xs : List V} {j : Nat} : cutV xs none (some (j : Nat)) = xs.take j := by
  unfold cutV
  rw [HT.sIx_none, HT.sIx_nat, List.drop_zero, Nat.sub_zero]
  by_cases h : j ≤ xs.length
  · rw [Nat.min_eq_left h]
  · rw [Nat.min_eq_right (by omega), List.take_of_length_le (Nat.le_refl _), List.take_of_length_le (by omega)]
theorem cut_from {xs : List V} {j : Nat} : cutV xs (some (j : Nat)) none = xs.drop j := by
  unfold cutV
  rw [HT.sIx_none, HT.sIx_nat]
  by_cases h : j ≤ xs.length
  · rw [Nat.min_eq_left h, List.take_of_length_le (by rw [List.length_drop]; omega)]
  · rw [Nat.min_eq_right (by omega), List.drop_of_length_le (Nat.le_refl _), List.drop_of_length_le (by omega), List.take_nil]
theorem dpa_take {G : Hp} : ∀ {vs : List V} {ds : List PyData} (n : Nat), DpAll K G vs ds → DpAll K G (vs.take n) (ds.take n)
  | _, _, 0, _ => .nil
  | _, _, _ + 1, .nil => .nil
  | _, _, n + 1, .cons a b => .cons a (dpa_take n b)
theorem dpa_drop {G : Hp} : ∀ {vs : List V} {ds : List PyData} (n : Nat), DpAll K G vs ds → DpAll K G (vs.drop n) (ds.drop n)
  | _, _, 0, h => h
  | _, _, _ + 1, .nil => .nil
  | _, _, n + 1, .cons _ b => dpa_drop n b
theorem e_sliceTo {j : Nat} (ha : E K ta ρ I (.d (.list ds)) I) (hb : E K tb ρ I (.i (j : Nat)) I) : E K (tSl (rSlL K) ta tNoPart (tPart tb)) ρ I (.l (ds.take j)) I := fun G H σ gh en io Q q =>
  ha G H σ gh en io _ fun v G1 H1 g1 gh1 j1 dv => hb G1 H1 σ gh1 (env_mono g1 en) j1 _ fun w G2 H2 g2 gh2 j2 dw => by
    obtain rfl := dv_int dw
    cases dv with
    | lst s r =>
      rename_i a xs
      refine ⟨_, rfl, a, xs, rfl, (g2.trans gh2).seq s, fun p hp => ?_⟩
      rw [cut_to (α := V)]
      have st := Stp.new (o := .lst (xs.take j)) gh2 hp
      exact q _ _ _ ((g1.trans g2).trans st.gg) st.gh (Asn.pure_st st j2) ⟨p, _, rfl, upd_same, dpa_take j (dp_monos (g2.trans st.gg) ds xs r)⟩
theorem e_sliceFrom {j : Nat} (ha : E K ta ρ I (.d (.list ds)) I) (hb : E K tb ρ I (.i (j : Nat)) I) : E K (tSl (rSlL K) ta (tPart tb) tNoPart) ρ I (.l (ds.drop j)) I := fun G H σ gh en io Q q =>
  ha G H σ gh en io _ fun v G1 H1 g1 gh1 j1 dv => hb G1 H1 σ gh1 (env_mono g1 en) j1 _ fun w G2 H2 g2 gh2 j2 dw => by
    obtain rfl := dv_int dw
    cases dv with
    | lst s r =>
      rename_i a xs
      refine ⟨_, rfl, a, xs, rfl, (g2.trans gh2).seq s, fun p hp => ?_⟩
      rw [cut_from]
      have st := Stp.new (o := .lst (xs.drop j)) gh2 hp
      exact q _ _ _ ((g1.trans g2).trans st.gg) st.gh (Asn.pure_st st j2) ⟨p, _, rfl, upd_same, dpa_drop j (dp_monos (g2.trans st.gg) ds xs r)⟩
theorem e_cat {es : List PyData} (ha : E K ta ρ I (.l ds) J) (hb : E K tb ρ J (.l es) L) (hl : ds.length + es.length ≤ 100000) : E K (tOp rCat ta tb) ρ I (.l (ds ++ es)) L :=
  e_op ha hb fun G H a b gh lo ⟨p, vs, e1, h1, r1⟩ ⟨q', ws, e2, h2, r2⟩ Q q => by
    subst e1 e2
    refine ⟨p, q', vs, ws, rfl, rfl, gh _ _ h1, gh _ _ h2, by rw [dpa_len r1, dpa_len r2]; exact sz_of hl, fun l hp => ?_⟩
    have st := Stp.new (o := .lst (vs ++ ws)) gh hp
    exact q _ _ _ st.gg st.gh (Asn.pure_st st lo) ⟨l, _, rfl, upd_same, dpa_app (dp_monos st.gg ds vs r1) (dp_monos st.gg es ws r2)⟩
/-! ### [x for x in xs if t] -/
/-! ### lists that change by place -/
/-- x = [a, b, ..], to be changed -/
theorem s_newLA {i : Nat} {ds : List Dat} {xs : List PyData} (hr : A K tr ρ I ds J) (hd : Ds ds xs) (hl : xs.length ≤ 100000) (h : ∀ q, ¬ J.foot q → S K us (ρ.set i (some (.r q))) (lJ K q xs J) k) : S K (tSeq (tAsg (tLst tr) (gName i)) us) ρ I k := fun G H σ D gh en io f =>
  hr G H σ gh en io _ fun vs G1 H1 g1 gh1 j1 dxs => by
    have r : DpAll K G1 vs xs := dva_dp (by rw [← hd.map]; exact dxs)
    refine ⟨by rw [dpa_len r]; exact sz_of hl, fun p hp => ?_⟩
    have s := Stp.newM (o := HO.lst vs) gh1 hp
    have gp : G1 p = none := gh1.free hp
    refine h p (fun z => ?_) G1 _ _ D s.gh (env_set (d := .r p) rfl (env_mono g1 en)) ⟨⟨gp, vs, upd_same, r⟩, Asn.pure_st s j1⟩ (f.mono g1)
    obtain ⟨o, ho⟩ := J.own G1 H1 p j1 z
    rw [ho] at hp
    cases hp
theorem dv_non {G : Hp} {v : V} (h : Dv K G v (.d .none)) : v = .non := by
  cases h
  rfl
/-- x is None, of data that is told -/
def isNon : PyData → Bool
  | .none => true
  | _ => false
theorem non_dec {G : Hp} {v : V} {x : PyData} (h : Dp K G v x) : decide (v = .non) = isNon x := by
  cases h <;> simp [isNon]
theorem e_isN (ha : E K ta ρ I (.d x) J) (hb : E K tb ρ J (.d .none) L) : E K (tOp (fun x y H Q => y = .non ∧ Q (.bl (decide (x = .non))) H) ta tb) ρ I (.b (isNon x)) L :=
  e_op ha hb fun G H a b gh lo dx dy Q q => ⟨dv_non dy, q _ G H (Same.refl _) gh lo (by rw [non_dec dx]; exact .bl _)⟩
theorem e_notN (ha : E K ta ρ I (.d x) J) (hb : E K tb ρ J (.d .none) L) : E K (tOp (fun x y H Q => y = .non ∧ Q (.bl (!decide (x = .non))) H) ta tb) ρ I (.b (!isNon x)) L :=
  e_op ha hb fun G H a b gh lo dx dy Q q => ⟨dv_non dy, q _ G H (Same.refl _) gh lo (by rw [non_dec dx]; exact .bl _)⟩
theorem s_asgE {g : TG} (h : E K te ρ I d L) (hL : ∀ G H, ¬ L.ok G H) : S K (tAsg te g) ρ I k := fun G H σ D gh en io f => h G H σ gh en io _ fun v G1 H1 g1 gh1 j1 dv => absurd j1 (hL G1 H1)
/-- a constant of the module -/
theorem e_glob {a : Addr} (h : ∀ G, Dp K G (.ref a) x) : E K (tC (.ref a)) ρ I (.d x) I := fun G H σ gh en io Q q => q _ G H (Same.refl _) gh io (h G)
theorem dp_const {a : Addr} {xs : List V} (h : ∀ G, SqT K G a xs) (hx : ∀ G, DpAll K G xs ds) : ∀ G, Dp K G (.ref a) (.tuple ds) := fun G => .tup (h G) (hx G)
theorem const_t {a : Addr} {o : Obj} {its : Array Value} {n : Nat} {xs : List V} (hk : K.lookup a = some o) (hc : o.cls = .type "tuple") (hd : o.data = .seq its n) (hz : its.size ≤ 100) (r : Vals xs its.toList) : ∀ G, SqT K G a xs := fun G => .inr ⟨o, its, n, hk, hc, hd, Nat.le_trans hz (by decide), r⟩
end
end PL
/-! Fractions as rational numbers. Plain Lean. -/
namespace FR
def vl (a : F) : Rat := (a.1 : Rat) / (a.2 : Rat)
theorem cpos {n : Int} (h : 0 < n) : (0 : Rat) < (n : Rat) := Rat.intCast_lt_intCast.mpr h
theorem div_eq {x y n d : Rat} (hy : y ≠ 0) (hd : d ≠ 0) (h : x * d = n * y) : x / y = n / d := by grind
theorem vl_nf {n d : Int} (h : 0 < d) : vl (nf n d) = (n : Rat) / (d : Rat) := by
  have p := cpos (nf_nrm (n := n) h).1
  have q := cpos h
  have z : (((nf n d).1 * d : Int) : Rat) = ((n * (nf n d).2 : Int) : Rat) := by rw [nf_mul1 h]
  rw [Rat.intCast_mul, Rat.intCast_mul] at z
  exact div_eq (by grind) (by grind) z
theorem vl_lf {n d : Int} (h : d ≠ 0) : vl (lf n d) = (n : Rat) / (d : Rat) := by
  unfold lf
  split
  · rw [vl_nf (by omega), Rat.intCast_sub, Rat.intCast_sub]
    have q : (d : Rat) ≠ 0 := fun z => h (Rat.intCast_inj.mp z)
    exact div_eq (by grind) q (by grind)
  · exact vl_nf (by omega)
theorem vl_plus {a b : F} (ha : Nrm a) (hb : Nrm b) : vl (plusM a b) = vl a + vl b := by
  rw [plus_eq ha hb, vl_nf (Int.mul_pos ha.1 hb.1), Rat.intCast_add, Rat.intCast_mul, Rat.intCast_mul, Rat.intCast_mul]
  have p := cpos ha.1
  have q := cpos hb.1
  unfold vl
  have p' : (a.2 : Rat) ≠ 0 := by grind
  have q' : (b.2 : Rat) ≠ 0 := by grind
  grind
theorem vl_minus {a b : F} (ha : Nrm a) (hb : Nrm b) : vl (minusM a b) = vl a - vl b := by
  rw [minus_eq ha hb, vl_nf (Int.mul_pos ha.1 hb.1), Rat.intCast_sub, Rat.intCast_mul, Rat.intCast_mul, Rat.intCast_mul]
  have p := cpos ha.1
  have q := cpos hb.1
  unfold vl
  have p' : (a.2 : Rat) ≠ 0 := by grind
  have q' : (b.2 : Rat) ≠ 0 := by grind
  grind
theorem vl_times {a b : F} (ha : Nrm a) (hb : Nrm b) : vl (timesM a b) = vl a * vl b := by
  rw [times_eq ha hb, vl_nf (Int.mul_pos ha.1 hb.1), Rat.intCast_mul, Rat.intCast_mul]
  have p := cpos ha.1
  have q := cpos hb.1
  unfold vl
  have p' : (a.2 : Rat) ≠ 0 := by grind
  have q' : (b.2 : Rat) ≠ 0 := by grind
  grind
theorem div_lt_div {a b c d : Rat} (hb : 0 < b) (hd : 0 < d) : a / b < c / d ↔ a * d < c * b := by
  rw [Rat.div_lt_iff hb]
  have e : c / d * b = c * b / d := by grind
  rw [e, Rat.lt_div_iff hd]
theorem vl_lt {a b : F} (ha : 0 < a.2) (hb : 0 < b.2) : vl a < vl b ↔ a.1 * b.2 < b.1 * a.2 := by
  unfold vl
  rw [div_lt_div (cpos ha) (cpos hb), ← Rat.intCast_mul, ← Rat.intCast_mul, Rat.intCast_lt_intCast]
theorem less_vl {a b : F} (ha : 0 < a.2) (hb : 0 < b.2) : less a b = decide (vl a < vl b) := by
  unfold less
  by_cases c : a.1 * b.2 < b.1 * a.2
  · rw [decide_eq_true c, decide_eq_true ((vl_lt ha hb).mpr c)]
  · rw [decide_eq_false c, decide_eq_false (fun z => c ((vl_lt ha hb).mp z))]
theorem vl_inj {a b : F} (ha : Nrm a) (hb : Nrm b) (h : vl a = vl b) : a = b := by
  have h1 := (vl_lt (a := a) (b := b) ha.1 hb.1)
  have h2 := (vl_lt (a := b) (b := a) hb.1 ha.1)
  refine nrm_one ha hb ?_
  have z1 : ¬ a.1 * b.2 < b.1 * a.2 := fun z => by have := h1.mpr z; grind
  have z2 : ¬ b.1 * a.2 < a.1 * b.2 := fun z => by have := h2.mpr z; grind
  omega
theorem vl_zero : vl (0, 1) = 0 := by unfold vl; grind
theorem vl_pos {a : F} (ha : 0 < a.2) : 0 < vl a ↔ 0 < a.1 := by
  have := vl_lt (a := (0, 1)) (b := a) (by decide) ha
  rw [vl_zero] at this
  rw [this]
  show (0 * a.2 < a.1 * 1) ↔ _
  omega
theorem vl_neg {a : F} (ha : 0 < a.2) : vl a < 0 ↔ a.1 < 0 := by
  have := vl_lt (a := a) (b := (0, 1)) ha (by decide)
  rw [vl_zero] at this
  rw [this]
  show (a.1 * 1 < 0 * a.2) ↔ _
  omega
/-! ### the law's own sort -/
def ins (x : F) (out : List F) : List F :=
  let at_ := (out.filter fun y => less y x).length
  if at_ = out.length ∨ out[at_]? ≠ some x then out.take at_ ++ [x] ++ out.drop at_ else out
end FR
/-! Spans of times and the least and greatest of good moments. Plain Lean. -/
namespace FR
def more (a b : F) : Bool := less b a
/-- the greater, the lesser of two, as the program takes them -/
def mx (a b : F) : F := bestL more a [a, b]
def mn (a b : F) : F := bestL less a [a, b]
theorem mx_eq (a b : F) (ha : 0 < a.2) (hb : 0 < b.2) : (mx a b = a ∧ vl b ≤ vl a) ∨ (mx a b = b ∧ vl a ≤ vl b) := by
  have e : mx a b = if more b (if more a a then a else a) then b else (if more a a then a else a) := rfl
  have e2 : (if more a a = true then a else a) = a := by split <;> rfl
  rw [e, e2]
  unfold more
  rw [less_vl ha hb]
  by_cases c : vl a < vl b
  · rw [decide_eq_true c, if_pos rfl]
    exact .inr ⟨rfl, by grind⟩
  · rw [decide_eq_false c, if_neg (by decide)]
    exact .inl ⟨rfl, by grind⟩
theorem mn_eq (a b : F) (ha : 0 < a.2) (hb : 0 < b.2) : (mn a b = a ∧ vl a ≤ vl b) ∨ (mn a b = b ∧ vl b ≤ vl a) := by
  have e : mn a b = if less b (if less a a then a else a) then b else (if less a a then a else a) := rfl
  have e2 : (if less a a = true then a else a) = a := by split <;> rfl
  rw [e, e2]
  rw [less_vl hb ha]
  by_cases c : vl b < vl a
  · rw [decide_eq_true c, if_pos rfl]
    exact .inr ⟨rfl, by grind⟩
  · rw [decide_eq_false c, if_neg (by decide)]
    exact .inl ⟨rfl, by grind⟩
/-! ### a ray against a box, axis by axis -/
structure Ax where
  l : F
  h : F
  o : F
  w : F
structure Ax.Ok (a : Ax) : Prop where
  l : Nrm a.l
  h : Nrm a.h
  o : Nrm a.o
  w : Nrm a.w
theorem div_le_pos {x t w : Rat} (hw : 0 < w) : x / w ≤ t ↔ x ≤ w * t := by
  have h := Rat.lt_div_iff (a := t) (b := x) hw
  constructor
  · intro z
    have : ¬ t * w < x := fun q => by have := h.mpr q; grind
    grind
  · intro z
    have : ¬ t < x / w := fun q => by have := h.mp q; grind
    grind
theorem le_div_pos {x t w : Rat} (hw : 0 < w) : t ≤ x / w ↔ w * t ≤ x := by
  have h := Rat.div_lt_iff (a := x) (b := w) (c := t) hw
  constructor
  · intro z
    have : ¬ x < t * w := fun q => by have := h.mpr q; grind
    grind
  · intro z
    have : ¬ x / w < t := fun q => by have := h.mp q; grind
    grind
end FR
/-! Two moving boxes: spans of times against the gaps between moments. Plain Lean. -/
namespace FR
/-! ### two boxes on an axis: low end, size and way of each -/
structure Sx where
  la : F
  sa : F
  va : F
  lb : F
  sb : F
  vb : F
structure Sx.Ok (a : Sx) : Prop where
  la : Nrm a.la
  sa : Nrm a.sa
  va : Nrm a.va
  lb : Nrm a.lb
  sb : Nrm a.sb
  vb : Nrm a.vb
def Sx.w (a : Sx) : F := minusM a.vb a.va
def Sx.lo (a : Sx) : F := minusM a.la (plusM a.lb a.sb)
def Sx.hi (a : Sx) : F := minusM (plusM a.la a.sa) a.lb
end FR
set_option maxHeartbeats 1000000
/-! generator expressions whose elements call defs: all(..), any(..) of them -/
namespace GX
open PySem PySem.Spec PyProof.Rows L2 GenW GxR
theorem over_gl {A : Around} {elt : Expr} {gs : List Comprehension} {sc : Scope} {p : Pos} {it acc : Value} {env : Env} :
    A.over (.compLoop (.GeneratorExp elt gs sc p) 0 it acc env) [] = A.deeper env := by
  first
    | rfl
    | (obtain ⟨hd, d, fr, gs, u⟩ := A; simp [Around.over, Around.deeper, marksOver, frameCount, unitsOf, envsOf, guardsOf, pushEnvs, pushGuards, Code.envs, Code.env?, Code.isFrame, Code.guards, Code.isGuard, Code.weight, Code.frames, Code.isCreation, Code.isCaller, Code.cUnits])
/-- the frame of a generator expression within X's def: made at s with the heap H, the walked thing's own objects at fp, run at B -/
def gcx (X : Cx) (B : Around) (s : Shared) (H : Hp) (ge : Env) (fp : List Addr) : Cx where
  prog := X.prog
  w := X.w
  K := X.K
  mg := X.mg
  base := X.base
  A := B
  N := X.N
  s_0 := s
  H_0 := H
  env := ge
  outer := X.stack
  stack := ge :: X.stack
  ex := fp
  fn := fun _ => false
  calm := true
  pn := []
  xe := fun _ _ => False
/-- the environment of that frame -/
abbrev gev (X : Cx) (scope : Scope) (C : Addr) (code : Value) : Env := genEnv scope (cloFrom X.env.cells scope.names []) C code builtinsNs X.env
section
variable {X : Cx} {pins : List (Addr × Obj)} {σ : L2.St} {H : Hp} {s : Shared}
theorem start_ok {scope : Scope} {own : List (Str × Nat)} {fp : List Addr} {B : Around} {code : Value} {h' : Heap} {g' : Array GenState} {t' : Nat} {m : Str → Option Value}
    (I : Inv X pins σ H s) (ok : BlkOk X.N X.env.scope scope own) (nc : ∀ y ∈ scope.names, y.2 ≠ .cell) (hN : X.N.Nodup) (hfp : ∀ b ∈ fp, FpOk X pins H b ∧ b < s.heap.objs.size)
    (hd : B.handled = none) (hF : B.frames = some (gev X scope s.heap.objs.size code :: X.stack)) (hns : h'.Ns s.heap.objs.size m)
    (kp : ∀ b o, s.heap.get? b = some o → h'.get? b = some o) (hg : AllBare g') :
    Inv (gcx X B s H (gev X scope s.heap.objs.size code) fp) [] (wipe σ (own.map (·.2))) H { s with heap := h', gens := g', toks := t' } := by
  have fr : ∀ y ∈ scope.names, y.2 = .free → ∃ c, X.env.cells.lookup y.1 = some c := fun y hy e => (ok.free y hy e).elim (fun k => I.ok.has _ (.inl k)) fun k => I.ok.has _ (.inr k)
  have cm : ∀ {y : Str} {c : Addr}, (y, c) ∈ cloFrom X.env.cells scope.names [] → X.env.cells.lookup y = some c ∧ c < s.heap.objs.size := by
    intro y c hm
    rcases cloFrom_mem hm with z | ⟨z, rfl⟩
    · cases z
    · obtain ⟨c, hc⟩ := fr _ z rfl
      obtain ⟨w, k⟩ := I.cell _ _ hc
      rw [hc]
      exact ⟨rfl, k.lt⟩
  have cl : ∀ {y : Str} {c : Addr}, (gev X scope s.heap.objs.size code).cells.lookup y = some c → X.env.cells.lookup y = some c ∧ c < s.heap.objs.size := fun e => cm (PySem.mem_of_lookup e)
  have kd : ∀ {y : Str} {k : NameKind}, (gev X scope s.heap.objs.size code).kindOf y = some k → (y, k) ∈ scope.names := fun e => PySem.mem_of_lookup e
  have kcell : ∀ {y : Str}, (gev X scope s.heap.objs.size code).kindOf y ≠ some .cell := fun {y} e => nc _ (kd e) rfl
  have has : ∀ {y : Str}, (gev X scope s.heap.objs.size code).kindOf y = some .free → ∃ c, (gev X scope s.heap.objs.size code).cells.lookup y = some c := fun {y} e => mem_lookup (cloFrom_has (cells := X.env.cells) (acc := []) (kd e))
  have okG : (gcx X B s H (gev X scope s.heap.objs.size code) fp).Ok := {
    mod := I.ok.mod
    kind := ok.kind
    glob := I.ok.glob
    blt := rfl
    above := Nat.le_refl _
    inj := fun y z c e1 e2 => I.ok.inj y z c (cl e1).1 (cl e2).1
    has := fun y hy => hy.elim (fun k => (kcell k).elim) fun k => has k
    cab := fun y c z _ => by cases (show false = true from z)
    hd := fun _ => hd
    frames := hF
    stk := .inr ⟨rfl, rfl⟩
    exf := fun b hb => ⟨Nat.ne_of_lt (hfp b hb).2, fun y c e z => (hfp b hb).1.2.2.2.2.1 y c (cl e).1 z⟩
    bs := I.bs
    bsz := Nat.le_trans I.ok.bsz I.sz
    noex := fun b o e hb => by
      rcases (hfp b hb).1.2.2.2.1 with z | z
      · exact I.ok.noex b o e z
      · exact Nat.lt_irrefl _ (Nat.lt_of_lt_of_le (Heap.lt_size e) (Nat.le_trans I.ok.bsz z))
    exfs := fun b hb z => (List.mem_cons.mp (I.stkSub b z)).elim (hfp b hb).1.2.1 (hfp b hb).1.2.2.1
    funs := I.stack
    frf := I.stkFree }
  refine {
    ok := okG
    os := rfl
    bare := hg
    base := Un.kept kp
    loc := ⟨m, hns, fun i y v e1 e2 e3 => ?_⟩
    cell := fun y c e => (I.cell y c (cl e).1).imp fun w k => k.keeps kp
    free := I.hok.fresh (Nat.le_refl _)
    freeC := fun y c e => I.freeC y c (cl e).1
    pin := fun p hp => absurd (show p ∈ ([] : List (Addr × Obj)) ++ [] from hp) (by simp)
    hok := I.hok.kept kp
    len := (wipe_length _ _).trans I.len }
  obtain ⟨e2, hne⟩ := wipe_some e2
  have nown : ¬ ((y, NameKind.local) ∈ scope.names) := fun hy => by
    rcases ok.own _ hy (.inl rfl) with z | z
    · obtain ⟨p, hp, hpy⟩ := List.mem_map.mp z
      have e4 := ok.ix p hp
      rw [show p.1 = y from hpy] at e4
      exact hne (List.mem_map.mpr ⟨p, hp, nodup_ix hN e4 e1⟩)
    · exact z (List.mem_of_getElem? e1)
  have hv : (gev X scope s.heap.objs.size code).kindOf y = some .free := by
    rcases e3 with k | k | k
    · exact (nown (kd k)).elim
    · exact (kcell k).elim
    · exact k
  obtain ⟨m0, _, hl⟩ := I.loc
  have hvX : Vis X.env.scope y := (ok.free _ (kd hv) rfl).elim (fun k => .inr (.inl k)) fun k => .inr (.inr k)
  obtain ⟨u, r, q⟩ := hl i y v e1 e2 hvX
  obtain ⟨c, hc⟩ := has hv
  refine ⟨u, r, .inr ⟨.inr hv, c, hc, ?_⟩⟩
  rcases q with ⟨k, _⟩ | ⟨_, c', e', z⟩
  · have k' : X.env.scope.names.lookup y = some .local := k
    rcases ok.free _ (kd hv) rfl with z | z <;> rw [show X.env.scope.names.lookup y = _ from z] at k' <;> cases k'
  · rw [(cl hc).1] at e'
    cases e'
    exact z.keeps kp
/-- other generators, other tokens: the heap is what counts -/
theorem inv_heap {s' : Shared} (I : Inv X pins σ H s) (hh : s'.heap = s.heap) (ho : s'.os = s.os) (hg : AllBare s'.gens) : Inv X pins σ H s' :=
  { ok := I.ok, os := ho.trans I.os, bare := hg, base := by rw [hh]; exact I.base, loc := by rw [hh]; exact I.loc, cell := by rw [hh]; exact I.cell, free := I.free, freeC := I.freeC, pin := by rw [hh]; exact I.pin, hok := by rw [hh]; exact I.hok, len := I.len }
end
/-! ### the walk within the generator -/
/-- what is told of the elements: the word W by turn and measure; a test that is pol goes on, any other ends it -/
structure Word (J : It) (g : TG) (tt : TT) (te : TE) (vs : List Nat) (τ : L2.St) (pol : Bool) (Dn Et : Hp → Prop) (W : Nat → Nat → Hp → Prop) : Prop where
  turn : ∀ i m H, W i m H → (J.stop i H ∧ Dn H) ∨ (J.go i H ∧ ∃ Nx : Hp → Prop, (∀ H', Nx H' → ∃ m', m' < m ∧ W (i + 1) m' H') ∧ ∀ x H', J.yld i H x H' → g x τ H' fun σ2 H2 => wipe σ2 vs = τ ∧ tt σ2 H2 fun b H3 =>
    if b = true then te σ2 H3 fun y H4 => ∃ r : Bool, y = .bl r ∧ (if r = pol then Nx H4 else Et H4) else Nx H3)
/-- it has come to its end -/
def EndR (X : Cx) (pins : List (Addr × Obj)) (τ : L2.St) (Dn : Hp → Prop) : GenEnd := fun _ _ r s => r = .ok .next ∧ ∃ H, Inv X pins τ H s ∧ Dn H
/-- it hands out a test; woken again where the test is pol -/
def OutY (X : Cx) (pins : List (Addr × Obj)) (τ : L2.St) (pol : Bool) (Et : Hp → Prop) : Protocol := fun _ _ v s kap =>
  ∃ (r : Bool) (H : Hp), v = .bool r ∧ Inv X pins τ H s ∧ ((r ≠ pol ∧ Et H) ∨ (r = pol ∧ ∀ s' : Shared, s'.heap = s.heap → s'.os = s.os → AllBare s'.gens → kap (.send .none) s'))
section
variable {X : Cx} {A : Around} {elt tg iter : Expr} {ifs : List Expr} {scope : Scope} {pos : Pos} {it : Addr} {J : It} {fp : List Addr} {tn : Nat → Heap → Prop} {g : TG} {tt : TT} {te : TE} {vs : List Nat} {τ : L2.St} {pol : Bool} {Dn Et : Hp → Prop} {W : Nat → Nat → Hp → Prop} {pins : List (Addr × Obj)}
theorem walk_seg (hov : A.over (.compLoop (.GeneratorExp elt [⟨tg, iter, ifs, 0⟩] scope pos) 0 (.ref it) .none X.env) [] = X.A) (hxe : X.xe = fun _ _ => False) (hco : X.env.scope.isCoroutine = false) (hc : X.calm = true)
    (T : Turn X.prog X.w X.K tg J fp it tn) (hfp : ∀ b ∈ fp, b ≠ X.env.locals ∧ b ∉ X.fs ∧ (b ∈ X.ex ∨ X.s_0.heap.objs.size ≤ b) ∧ (∀ x c, X.env.cells.lookup x = some c → c ≠ b) ∧ ∀ p ∈ X.pn ++ pins, p.1 ≠ b)
    (pg : PG X tg g) (pt : PTs X ifs tt) (pe : PE X elt te) (hl : ∀ σ : L2.St, wipe σ vs = τ → σ.length = τ.length ∧ ∀ (j : Nat) v, τ[j]? = some (some v) → σ[j]? = some (some v)) (V : Word J g tt te vs τ pol Dn Et W) :
    ∀ (m n i : Nat) (s₀ s : Shared) (H : Hp), m < n → Inv X pins τ H s → tn i s.heap → (∀ b ∈ fp, H b = none) → W i m H →
      Seg (model X.prog X.w) A (EndR X pins τ Dn) (OutY X pins τ pol Et) n s₀ (.compLoop (.GeneratorExp elt [⟨tg, iter, ifs, 0⟩] scope pos) 0 (.ref it) .none X.env)
        ((model X.prog X.w).den (.compLoop (.GeneratorExp elt [⟨tg, iter, ifs, 0⟩] scope pos) 0 (.ref it) .none X.env)) [] s := by
  intro m
  induction m using Nat.strongRecOn with
  | ind m ih =>
    intro n i s₀ s H hmn I st fr w
    have stat : ∀ {H' : Hp}, (∀ b ∈ fp, H' b = none) → ∀ b ∈ fp, FpOk X pins H' b := fun hn b hb => ⟨hn b hb, (hfp b hb).1, (hfp b hb).2.1, (hfp b hb).2.2.1, (hfp b hb).2.2.2.1, (hfp b hb).2.2.2.2⟩
    have nof : ∀ x s', X.xe x s' → False := fun x s' z => by
      rw [hxe] at z
      exact z
    show Seg _ A _ _ _ s₀ _ ((compTurn (.GeneratorExp elt [⟨tg, iter, ifs, 0⟩] scope pos) 0 (.ref it) .none X.env).onRaise (leaving X.env)) [] s
    rw [compTurn_gen, Sem.onRaise_eq_wrap]
    refine seg_bind_wrap (wpAny_standAt ?_)
    refine seg_bind_wrap ?_
    rw [hov]
    rcases V.turn i m H w with ⟨stop, dn⟩ | ⟨go, Nx, hNx, step⟩
    · refine thn (T.done X rfl rfl rfl hc i pins s τ H _ I (stat fr) st stop) fun r s1 ⟨hr, I1⟩ => ?_
      subst hr
      exact seg_end (.ok .next) ⟨rfl, H, I1, dn⟩
    · refine thn (T.item X rfl rfl rfl hc i pins s τ H _ I (stat fr) st go) fun r s1 ⟨u, hr, h1⟩ => ?_
      subst hr
      refine seg_bind_wrap ?_
      rw [hov]
      refine wpAny_mono h1 (fun _ s2 ⟨x, H2, I2, r2, y2, st2, fr2⟩ => ?_) fun _ _ e => e
      have J2 := I2.pinned (stat fr2) (T.obj _ _ st2)
      -- what stays of the walked thing's objects while the element runs
      have back : ∀ {s' : Shared} {σ' : L2.St} {H' : Hp}, Inv X (pins ++ pinsAt fp s2.heap) σ' H' s' → wipe σ' vs = τ → Inv X pins τ H' s' ∧ tn (i + 1) s'.heap ∧ ∀ b ∈ fp, H' b = none := fun {s' σ' H'} K hw => by
        have kept : ∀ b ∈ fp, ∀ o, s2.heap.get? b = some o → s'.heap.get? b = some o ∧ H' b = none := fun b hb o e =>
          ⟨(K.pin (b, o) (List.mem_append_right _ (List.mem_append_right _ (mem_pinsAt hb e)))).1, (K.pin (b, o) (List.mem_append_right _ (List.mem_append_right _ (mem_pinsAt hb e)))).2.1⟩
        refine ⟨K.unpinned.weak (hl σ' hw).1.symm (hl σ' hw).2, T.keep _ _ _ st2 fun b hb o e => (kept b hb o e).1, fun b hb => ?_⟩
        obtain ⟨o, e, _⟩ := T.obj _ _ st2 b hb
        exact (kept b hb o e).2
      refine seg_bind_wrap ?_
      rw [hov]
      refine wpAny_mono (pg.run _ s2 τ H2 x u _ J2 r2 (step x H2 y2)) (fun _ s3 ⟨σ3, H3, I3, hw, q3⟩ => ?_) fun x s' z => (nof x s' z).elim
      refine seg_bind_wrap ?_
      rw [hov]
      refine wpAny_mono (pt.run _ s3 σ3 H3 _ I3 q3) (fun b s4 ⟨H4, I4, q4⟩ => ?_) fun x s' z => (nof x s' z).elim
      cases b with
      | false =>
        obtain ⟨I5, st5, fr5⟩ := back I4 hw
        obtain ⟨m', hm, w'⟩ := hNx H4 q4
        simp only [Bool.false_eq_true, if_false]
        exact seg_again rfl (ih m' hm n (i + 1) s₀ s4 H4 (by omega) I5 st5 fr5 w')
      | true =>
        simp only [if_true]
        have hy : ∀ v, yieldOut X.env v = yieldValue v := fun v => by
          unfold yieldOut
          rw [hco]
          rfl
        simp only [hy]
        rw [Sem.bind_eq_wrap', Sem.bind_eq_wrap', Sem.wrap_wrap, Sem.wrap_wrap]
        refine seg_wrap ?_
        rw [hov]
        refine wpAny_mono (pe.run _ s4 σ3 H4 _ I4 q4) (fun v s5 ⟨y, H5, I5, rv, r, ey, q5⟩ => ?_) fun x s' z => (nof x s' z).elim
        subst ey
        have ev : v = .bool r := rv
        obtain ⟨I6, st6, fr6⟩ := back I5 hw
        obtain ⟨n', rfl⟩ : ∃ n', n = n' + 1 := ⟨n - 1, by omega⟩
        refine seg_at (seg_yield rfl rfl rfl ⟨r, H5, ev, I6, ?_⟩)
        by_cases hr : r = pol
        · rw [if_pos hr] at q5
          refine .inr ⟨hr, fun s' hh ho hg => ?_⟩
          obtain ⟨m', hm, w'⟩ := hNx H5 q5
          exact seg_again rfl (ih m' hm n' (i + 1) s' s' H5 (by omega) (inv_heap I6 hh ho hg) (by rw [hh]; exact st6) fr6 w')
        · rw [if_neg hr] at q5
          exact .inl ⟨hr, q5⟩
theorem walk_from (hov : A.over (.compLoop (.GeneratorExp elt [⟨tg, iter, ifs, 0⟩] scope pos) 0 (.ref it) .none X.env) [] = X.A) (hxe : X.xe = fun _ _ => False) (hco : X.env.scope.isCoroutine = false) (hc : X.calm = true)
    (T : Turn X.prog X.w X.K tg J fp it tn) (hfp : ∀ b ∈ fp, b ≠ X.env.locals ∧ b ∉ X.fs ∧ (b ∈ X.ex ∨ X.s_0.heap.objs.size ≤ b) ∧ (∀ x c, X.env.cells.lookup x = some c → c ≠ b) ∧ ∀ p ∈ X.pn ++ pins, p.1 ≠ b)
    (pg : PG X tg g) (pt : PTs X ifs tt) (pe : PE X elt te) (hl : ∀ σ : L2.St, wipe σ vs = τ → σ.length = τ.length ∧ ∀ (j : Nat) v, τ[j]? = some (some v) → σ[j]? = some (some v)) (V : Word J g tt te vs τ pol Dn Et W)
    {m n : Nat} {s₀ s : Shared} {H : Hp} (hmn : m < n) (I : Inv X pins τ H s) (st : tn 0 s.heap) (fr : ∀ b ∈ fp, H b = none) (w : W 0 m H) :
      Seg (model X.prog X.w) A (EndR X pins τ Dn) (OutY X pins τ pol Et) n s₀ (.compStart (.GeneratorExp elt [⟨tg, iter, ifs, 0⟩] scope pos) 0 (.ref it) .none X.env)
        ((model X.prog X.w).den (.compStart (.GeneratorExp elt [⟨tg, iter, ifs, 0⟩] scope pos) 0 (.ref it) .none X.env)) [] s := by
  have go := walk_seg hov hxe hco hc T hfp pg pt pe hl V m n 0 s₀ s H hmn I st fr w
  show Seg _ A _ _ _ s₀ _ ((compStart (.GeneratorExp elt [⟨tg, iter, ifs, 0⟩] scope pos) 0 (.ref it) .none X.env).onRaise (leaving X.env)) [] s
  unfold compStart
  rw [Sem.onRaise_eq_wrap]
  show Seg _ A _ _ _ s₀ _ ((ask >>= _).wrap _ _ _ _) [] s
  refine seg_bind_wrap (wpAny_askSetting ?_)
  split
  · exact seg_again rfl go
  · refine seg_bind_wrap (wpAny_rule ?_)
    show Seg _ A _ _ _ s₀ _ ((standAt iter.pos >>= _).wrap _ _ _ _) [] s
    exact seg_bind_wrap (wpAny_standAt (seg_bind_wrap (T.self _ 0 s _ _ st (seg_again rfl go))))
/-! ### the consumers -/
/-- the generator at a may be woken: Seg's number n -/
def Awake (X : Cx) (B : Around) (a : Addr) (go : Obj) (gn : Nat) (τ : L2.St) (pol : Bool) (Dn Et : Hp → Prop) (n : Nat) (s : Shared) : Prop :=
  ∃ gs, s.gens[gn]? = some gs ∧ (∃ H, Inv X [(a, go)] τ H s) ∧ gs.Goes (model X.prog X.w) B (EndR X [(a, go)] τ Dn) (OutY X [(a, go)] τ pol Et) n (.send .none) (s.setGen gn .running)
variable {B : Around} {a : Addr} {go : Obj} {gn : Nat}
/-- the next item -/
theorem next_run {Q : Option Value → Shared → Prop} {E : Value → Shared → Prop} {n : Nat} {s : Shared} (hd : B.handled = none) (hr : B.depth < recursionLimit) (hgo : ∀ h : Heap, h.get? a = some go → h.IsGen a gn)
    (h : Awake X B.in1 a go gn τ pol Dn Et n s) (hDn : ∀ s' H, Inv X [(a, go)] τ H s' → Dn H → Q none s')
    (hEt : ∀ s' H, Inv X [(a, go)] τ H s' → Et H → Q (some (.bool (!pol))) s') (hNx : ∀ s' m, n = m + 1 → Awake X B.in1 a go gn τ pol Dn Et m s' → Q (some (.bool pol)) s') :
    wpAny (model X.prog X.w) B (pyNext (.ref a)) Q E s := by
  obtain ⟨gs, hgs, ⟨H0, I0⟩, hg⟩ := h
  have hlt : gn < s.gens.size := (Array.getElem?_eq_some_iff.mp hgs).1
  have isg := hgo _ (I0.pin (a, go) (List.mem_append_right _ (List.mem_singleton.mpr rfl))).1
  refine wpAny_gsz (n := gn + 1) hlt (wpAny_pyNext_genexpQ (P := fun _ _ s1 => ∃ H, Inv X [(a, go)] τ H s1 ∧ Dn H) hd I0.nolimit hr isg hgs hg (fun v s1 gs' hb hv hsz => ?_) fun s1 hp h' hk hsz => ?_)
  · obtain ⟨r, H, rfl, I, q⟩ := hv
    have I' : Inv X [(a, go)] τ H (s1.setGen gn gs') := inv_heap I rfl rfl (allBare_setGen I.bare hb)
    rcases q with ⟨hr, he⟩ | ⟨hr, hk⟩
    · have e : r = !pol := by
        cases r <;> cases pol <;> first | rfl | exact (hr rfl).elim
      rw [e]
      exact hEt _ H I' he
    · subst hr
      have hs1 : gn < s1.gens.size := by
        have z : (s1.setGen gn gs').gens.size = s1.gens.size := setGen_size _ _ _
        have z2 : gn + 1 ≤ (s1.setGen gn gs').gens.size := hsz
        omega
      have k := hk ((s1.setGen gn gs').setGen gn .running) rfl rfl (allBare_setGen I'.bare rfl)
      cases n with
      | zero => exact False.elim k
      | succ m => exact hNx _ m rfl ⟨gs', setGen_at hs1, ⟨H, I'⟩, k⟩
  · obtain ⟨H, I, dn⟩ := hp
    exact hDn _ H (Inv.kept (t' := s1.toks) (inv_heap (s' := s1.setGen gn .finished) I rfl rfl (allBare_setGen I.bare rfl)) hk) dn
theorem all_run {R : Result → Shared → Prop} (hd : B.handled = none) (hr : B.depth < recursionLimit) (hgo : ∀ h : Heap, h.get? a = some go → h.IsGen a gn)
    (hDn : ∀ s' H, Inv X [(a, go)] τ H s' → Dn H → R (.ok (.ret (.bool true))) s') (hEt : ∀ s' H, Inv X [(a, go)] τ H s' → Et H → R (.ok (.ret (.bool false))) s') :
    ∀ (n : Nat) (s : Shared), Awake X B.in1.in1 a go gn τ true Dn Et n s → codeAny (model X.prog X.w) B (.builtin "all.loop" ⟨[.ref a], []⟩) R s := by
  intro n
  induction n with
  | zero =>
    intro s h
    refine codeAny_builtin F.entry_all_loop ?_
    rw [Around.under_plainId F.plain_all_loop _]
    show wpAny _ B.in1 (pyNext (.ref a) >>= _) _ _ s
    refine wpAny_bind (next_run hd hr hgo h (fun s1 H I dn => wpAny_bind (wpAny_rule (wpAny_pure (hDn s1 H I dn)))) (fun s1 H I et => ?_) fun s1 m e _ => by cases e)
    refine wpAny_bind (wpAny_holding (wpAny_truthy_bool (wpAny_bind (wpAny_letGo ?_))))
    exact wpAny_bind (wpAny_rule (wpAny_pure (hEt s1 H I et)))
  | succ n ih =>
    intro s h
    refine codeAny_builtin F.entry_all_loop ?_
    rw [Around.under_plainId F.plain_all_loop _]
    show wpAny _ B.in1 (pyNext (.ref a) >>= _) _ _ s
    refine wpAny_bind (next_run hd hr hgo h (fun s1 H I dn => wpAny_bind (wpAny_rule (wpAny_pure (hDn s1 H I dn)))) (fun s1 H I et => ?_) fun s1 m e aw => ?_)
    · refine wpAny_bind (wpAny_holding (wpAny_truthy_bool (wpAny_bind (wpAny_letGo ?_))))
      exact wpAny_bind (wpAny_rule (wpAny_pure (hEt s1 H I et)))
    · cases e
      refine wpAny_bind (wpAny_holding (wpAny_truthy_bool (wpAny_bind (wpAny_letGo ?_))))
      exact wpAny_pure ⟨plainId_quiet F.plain_all_loop _, ih s1 aw⟩
theorem any_run {R : Result → Shared → Prop} (hd : B.handled = none) (hr : B.depth < recursionLimit) (hgo : ∀ h : Heap, h.get? a = some go → h.IsGen a gn)
    (hDn : ∀ s' H, Inv X [(a, go)] τ H s' → Dn H → R (.ok (.ret (.bool false))) s') (hEt : ∀ s' H, Inv X [(a, go)] τ H s' → Et H → R (.ok (.ret (.bool true))) s') :
    ∀ (n : Nat) (s : Shared), Awake X B.in1.in1 a go gn τ false Dn Et n s → codeAny (model X.prog X.w) B (.builtin "any.loop" ⟨[.ref a], []⟩) R s := by
  intro n
  induction n with
  | zero =>
    intro s h
    refine codeAny_builtin F.entry_any_loop ?_
    rw [Around.under_plainId F.plain_any_loop _]
    show wpAny _ B.in1 (pyNext (.ref a) >>= _) _ _ s
    refine wpAny_bind (next_run hd hr hgo h (fun s1 H I dn => wpAny_bind (wpAny_rule (wpAny_pure (hDn s1 H I dn)))) (fun s1 H I et => ?_) fun s1 m e _ => by cases e)
    refine wpAny_bind (wpAny_holding (wpAny_truthy_bool (wpAny_bind (wpAny_letGo ?_))))
    exact wpAny_bind (wpAny_rule (wpAny_pure (hEt s1 H I et)))
  | succ n ih =>
    intro s h
    refine codeAny_builtin F.entry_any_loop ?_
    rw [Around.under_plainId F.plain_any_loop _]
    show wpAny _ B.in1 (pyNext (.ref a) >>= _) _ _ s
    refine wpAny_bind (next_run hd hr hgo h (fun s1 H I dn => wpAny_bind (wpAny_rule (wpAny_pure (hDn s1 H I dn)))) (fun s1 H I et => ?_) fun s1 m e aw => ?_)
    · refine wpAny_bind (wpAny_holding (wpAny_truthy_bool (wpAny_bind (wpAny_letGo ?_))))
      exact wpAny_bind (wpAny_rule (wpAny_pure (hEt s1 H I et)))
    · cases e
      refine wpAny_bind (wpAny_holding (wpAny_truthy_bool (wpAny_bind (wpAny_letGo ?_))))
      exact wpAny_pure ⟨plainId_quiet F.plain_any_loop _, ih s1 aw⟩
end
/-! ### the rule -/
/-- the scope of a generator expression -/
structure GSc (scope : Scope) : Prop where
  co : scope.isCoroutine = false
  nc : ∀ y ∈ scope.names, y.2 ≠ .cell
  dot : scope.names.lookup (".0" : Str) = some NameKind.local
def tGen (pol : Bool) (P : Addr) (wi : TI) (g : TG) (tt : TT) (te : TE) (vs : List Nat) : TE := fun σ H Q => wi σ H fun J H1 => TabG H1 P ∧ ∀ H2, Tabbed P H1 H2 →
  ∃ W : Nat → Nat → Hp → Prop, (∃ m, W 0 m H2) ∧ Word J g tt te vs (wipe σ vs) pol (fun H' => Q (.bl pol) H') (fun H' => Q (.bl (!pol)) H') W
/-- a generator of X's frame is ready: what its end means for X -/
def Made (X : Cx) (pins : List (Addr × Obj)) (σ : L2.St) (pol : Bool) (Q : VK) (u : Value) (s : Shared) : Prop :=
  ∃ (Y : Cx) (a : Addr) (go : Obj) (gn n : Nat) (τ : L2.St) (Dn Et : Hp → Prop), u = .ref a ∧ Y.prog = X.prog ∧ Y.w = X.w ∧ (∀ h : Heap, h.get? a = some go → h.IsGen a gn) ∧ Awake Y X.A.in1.in1 a go gn τ pol Dn Et n s ∧ s.heap.IsGen a gn ∧
    (∀ s' H', Inv Y [(a, go)] τ H' s' → Dn H' → EP X pins σ Q (.bool pol) s') ∧ ∀ s' H', Inv Y [(a, go)] τ H' s' → Et H' → EP X pins σ Q (.bool (!pol)) s'
section
variable {X : Cx} {elt tg iter : Expr} {ifs : List Expr} {scope : Scope} {own : List (Str × Nat)} {gpos : Pos} {wi : TI} {g : TG} {tt : TT} {te : TE} {pol : Bool} {c P : Addr} {k : Nat}
theorem gen_core {pins : List (Addr × Obj)} {σ : L2.St} {H : Hp} {s : Shared} {Q : VK} (hr : Room (k + 1) X.A) (TB : TabB X.base X.mg c P) (hcode : X.env.code = .ref c) (ok : BlkOk X.N X.env.scope scope own) (S : GSc scope) (hN : X.N.Nodup) (hi : PI X tg iter wi)
    (hpg : ∀ B s H C code fp, Room k B → PG (gcx X B s H (gev X scope C code) fp) tg g) (hpt : ∀ B s H C code fp, Room k B → PTs (gcx X B s H (gev X scope C code) fp) ifs tt) (hpe : ∀ B s H C code fp, Room k B → PE (gcx X B s H (gev X scope C code) fp) elt te)
    (hs : ∀ v, genFold iter X.env v = pure v) (I : Inv X pins σ H s) (h : tGen pol P wi g tt te (own.map (·.2)) σ H Q) :
    wpAny (model X.prog X.w) X.A (eval (.GeneratorExp elt [⟨tg, iter, ifs, 0⟩] scope gpos) X.env) (Made X pins σ pol Q) X.xe s := by
  have fr : ∀ y ∈ scope.names, y.2 = .free → ∃ c, X.env.cells.lookup y.1 = some c := fun y hy e => (ok.free y hy e).elim (fun k => I.ok.has _ (.inl k)) fun k => I.ok.has _ (.inr k)
  refine wpAny_GeneratorExp_make S.co (closure_ok fr) S.nc S.dot ok.kind (by have := hr.dp; omega) ?_ hs
  refine thn (hi.run pins s σ H _ I h) fun v s1 h1 => thn h1 fun itv s2 h2 => ?_
  obtain ⟨it, fp, tn, J, H1, e, I1, T, st, f1, ⟨ps, hP, htri⟩, q⟩ := h2
  subst e
  refine ⟨I1.nolimit, ?_⟩
  have gP : s2.heap.get? P = some { cls := .none, data := .fields ps } := I1.hok P _ hP
  have hcd : PySem.W.CodeHd s2.heap c P := TB.code.keeps fun b u e => I1.bk b u e
  have key : ∀ (code : Value) (h3 : Heap) (tk : Nat) (more : Array Value), Heap.ExtBut P s2.heap h3 → s2.heap.objs.size ≤ h3.objs.size → h3.get? P = some { cls := .none, data := .fields (ps ++ more) } → TriplesOk (ps ++ more).toList →
      wpAny (model X.prog X.w) X.A (builtinsFor X.env.globals X.env.builtins) (fun bi s₄ =>
        ∀ h', h'.Ns s₄.heap.objs.size (fun y => if y = ".0" then some (.ref it) else none) → Heap.SameBut s₄.heap.objs.size (s₄.heap.push { cls := .type "frame", data := .dict #[] }) h' →
          Made X pins σ pol Q (.ref h'.objs.size) { s₄ with
            gens := s₄.gens.push (.fresh (.compStart (.GeneratorExp elt [⟨tg, iter, ifs, 0⟩] scope gpos) 0 (.ref it) .none (genEnv scope (cloFrom X.env.cells scope.names []) s₄.heap.objs.size code bi X.env))),
            toks := s₄.toks + 1 + 1 + 1,
            heap := h'.push { cls := .type "generator", data := .fields #[.int s₄.gens.size 0, .str "<genexpr>" (s₄.toks + 1), .str (X.env.qual ++ "<genexpr>") (s₄.toks + 1 + 1)] } }) X.xe { s2 with heap := h3, toks := tk } := by
    intro code h3 tk more hx hsz hP3 htri3
    obtain ⟨bm, ob, e1, e2, e3, e4, e5, e6, e7, e8⟩ := TB.bm
    have kp3 : ∀ b u, b ≠ P → s2.heap.get? b = some u → h3.get? b = some u := fun b u hb e => hx b u hb e
    refine wpAny_builtinsFor (m := X.mg) (by rw [I1.ok.glob]; exact (I1.mod.glob.keeps I1.bk).extBut hx TB.gP) e1 e2 (kp3 _ _ e4 (I1.bk _ _ e5)) e6 e7 e8 ?_
    intro h' hns hsb
    -- behind the code object, ahead of the frame
    have I3 : Inv X pins σ (upd H1 P (.tbl (ps ++ more))) { s2 with heap := h3, toks := tk } := inv_tab (g' := s2.gens) (d' := s2.drawn) I1 hP kp3 hP3 I1.bare
    have fnP : ∀ b ∈ fp, b ≠ P := fun b hb z => by
      have := (f1 b hb).1
      rw [z, hP] at this
      cases this
    have st3 : tn 0 h3 := T.keep _ _ _ st fun b hb o e => kp3 b o (fnP b hb) e
    have f3 : ∀ b ∈ fp, FpOk X pins (upd H1 P (.tbl (ps ++ more))) b ∧ b < h3.objs.size := fun b hb => by
      obtain ⟨o, e, _⟩ := T.obj _ _ st3 b hb
      exact ⟨⟨by rw [upd_ne (fnP b hb)]; exact (f1 b hb).1, (f1 b hb).2⟩, Heap.lt_size e⟩
    obtain ⟨W, ⟨m0, w0⟩, V⟩ := q (upd H1 P (.tbl (ps ++ more))) ⟨⟨ps ++ more, upd_same, htri3⟩, fun b hb => upd_ne hb⟩
    have sz' : h'.objs.size = h3.objs.size + 1 := by rw [hsb.1, Heap.size_push]
    have kp' : ∀ b o, h3.get? b = some o → h'.get? b = some o := fun b o e => hsb.extBut b o (Nat.ne_of_lt (Heap.lt_size e)) (Heap.get?_push_of_some _ e)
    generalize hgo : ({ cls := .type "generator", data := .fields #[.int s2.gens.size 0, .str "<genexpr>" (tk + 1), .str (X.env.qual ++ "<genexpr>") (tk + 1 + 1)] } : Obj) = go
    have isG : ∀ h : Heap, h.get? h'.objs.size = some go → h.IsGen h'.objs.size s2.gens.size := fun h e => ⟨go, _, _, e, by rw [← hgo], by rw [← hgo], by rw [← hgo]⟩
    have hB : Room k (X.A.in1.in1.deeper (gev X scope h3.objs.size code)) := ⟨hr.hd, by have := hr.dp; show X.A.depth + 1 + 3 * k + 5 < _; omega, by have := hr.un; show X.A.units + 1 + 1 + 3 + 16 * k + 200 < _; omega⟩
    have hF : (X.A.in1.in1.deeper (gev X scope h3.objs.size code)).frames = some (gev X scope h3.objs.size code :: X.stack) := Around.frames_deeper (by exact I1.ok.frames)
    have g5 : AllBare (s2.gens.push (.fresh (.compStart (.GeneratorExp elt [⟨tg, iter, ifs, 0⟩] scope gpos) 0 (.ref it) .none (gev X scope h3.objs.size code)))) := I1.bare.push rfl
    have Y0 := start_ok (t' := tk + 1 + 1 + 1) I3 ok S.nc hN f3 hB.hd hF hns kp' g5
    have gY := Heap.get?_push_size h' (o := go) (by rw [← hgo]; rfl)
    have Y1 := (Inv.kept (t' := tk + 1 + 1 + 1) (h' := h'.push go) Y0 fun b o e => Heap.get?_push_of_some _ e)
    have Y2 := Y1.pins_of (pins' := [(h'.objs.size, go)]) fun p hp => by
      rw [List.mem_singleton.mp hp]
      exact ⟨gY, Y0.hok.fresh (Nat.le_refl _), Nat.ne_of_gt Y0.lt, Y0.nofs (Nat.le_refl _), fun v z => by rw [← hgo] at z; cases z⟩
    have back : ∀ s' H', Inv (gcx X (X.A.in1.in1.deeper (gev X scope h3.objs.size code)) { s2 with heap := h3, toks := tk } (upd H1 P (.tbl (ps ++ more))) (gev X scope h3.objs.size code) fp) [(h'.objs.size, go)] (wipe σ (own.map (·.2))) H' s' → Inv X pins σ H' s' := fun s' H' K =>
      I3.call' (ch := fp) K.os K.base K.hok K.bare fun b hb => ⟨(f3 b hb).1.2.2.2.1, (f3 b hb).1.2.1, (f3 b hb).1.2.2.2.2.1, (f3 b hb).1.2.2.2.2.2⟩
    refine ⟨gcx X (X.A.in1.in1.deeper (gev X scope h3.objs.size code)) { s2 with heap := h3, toks := tk } (upd H1 P (.tbl (ps ++ more))) (gev X scope h3.objs.size code) fp, h'.objs.size, go, s2.gens.size, m0 + 1, wipe σ (own.map (·.2)), _, _, rfl, rfl, rfl, isG, ⟨.fresh (.compStart (.GeneratorExp elt [⟨tg, iter, ifs, 0⟩] scope gpos) 0 (.ref it) .none (gev X scope h3.objs.size code)), ?_, ⟨_, Y2⟩, rfl, ?_⟩, isG _ gY, fun s' H' K dn => ⟨.bl pol, H', back s' H' K, rfl, dn⟩, fun s' H' K et => ⟨.bl (!pol), H', back s' H' K, rfl, et⟩⟩
    · exact Array.getElem?_push_size ..
    · refine walk_from (X := gcx X (X.A.in1.in1.deeper (gev X scope h3.objs.size code)) { s2 with heap := h3, toks := tk } (upd H1 P (.tbl (ps ++ more))) (gev X scope h3.objs.size code) fp) over_gl rfl S.co rfl T (fun b hb => ⟨(Y0.ok.exf b hb).1, Y0.ok.exfs b hb, .inl hb, (Y0.ok.exf b hb).2, fun p hp => ?_⟩) (hpg _ _ _ _ _ _ hB) (hpt _ _ _ _ _ _ hB) (hpe _ _ _ _ _ _ hB) (fun σ' hw => ?_) V (Nat.lt_succ_self m0) (inv_heap Y2 rfl rfl (allBare_setGen (x := .running) Y2.bare rfl)) ?_ (fun b hb => (f3 b hb).1.1) w0
      · have e : p = (h'.objs.size, go) := by simpa [gcx] using hp
        rw [e]
        exact Nat.ne_of_gt (Nat.lt_trans (f3 b hb).2 (by omega))
      · refine ⟨by rw [← hw, wipe_length], fun j v e => ?_⟩
        rw [← hw] at e
        exact (wipe_some e).1
      · exact T.keep _ _ _ st3 fun b _ o e => Heap.get?_push_of_some _ (kp' b o e)
  cases hf : codeAmong gpos ps.toList with
  | some cv =>
    refine wpAny_genexprCode_hit hcode (hcd.code gP htri) hf ?_
    have z := key cv s2.heap s2.toks #[] (Heap.ExtBut.refl _ _) (Nat.le_refl _) (by rw [Array.append_empty]; exact gP) (by rw [Array.append_empty]; exact htri)
    exact z
  | none =>
    refine wpAny_genexprCodeX hcode (hcd.code gP htri) (hcd.tab gP) hf fun c' h3 tk hx hge hlt hco _ htab _ => ?_
    obtain ⟨o1, vs, f1, tf, fl, tg, inF, tx, tt, op, _, _, _, _, _, _, _, _, _, htr, _⟩ := hco
    exact key _ h3 tk _ hx (Nat.le_trans hge (Nat.le_of_lt hlt)) htab.2 htr
theorem pe_all {p pos : Pos} (hr : Room (k + 1) X.A) (hg : Gl X "all") (hm : X.mg "all" = none) (hb : bootBuiltins "all" = some (.builtin "all")) (TB : TabB X.base X.mg c P) (hcode : X.env.code = .ref c) (ok : BlkOk X.N X.env.scope scope own) (S : GSc scope) (hN : X.N.Nodup) (hi : PI X tg iter wi)
    (hpg : ∀ B s H C code fp, Room k B → PG (gcx X B s H (gev X scope C code) fp) tg g) (hpt : ∀ B s H C code fp, Room k B → PTs (gcx X B s H (gev X scope C code) fp) ifs tt) (hpe : ∀ B s H C code fp, Room k B → PE (gcx X B s H (gev X scope C code) fp) elt te)
    (hs : ∀ v, genFold iter X.env v = pure v)
    (he : starEach [.GeneratorExp elt [⟨tg, iter, ifs, 0⟩] scope gpos] X.env = (false, eval (.GeneratorExp elt [⟨tg, iter, ifs, 0⟩] scope gpos) X.env) :: starEach [] X.env := by rfl) :
    PE X (.Call (.Name "all" p) [.GeneratorExp elt [⟨tg, iter, ifs, 0⟩] scope gpos] [] pos) (tGen true P wi g tt te (own.map (·.2))) := by
  refine ⟨fun pins s σ H Q I h => ?_⟩
  refine wpAny_Call_Name_kw (ld_blt I hg hm hb ?_)
  refine PyProof.Rows.callWith_builtin1 ?_ he (by rfl)
  rw [he]
  show wpAny _ _ (spliced ((false, eval (.GeneratorExp elt [⟨tg, iter, ifs, 0⟩] scope gpos) X.env) :: backTo pos (starEach [] X.env))) _ _ s
  refine Calls.spliced_cons (thn (gen_core hr TB hcode ok S hN hi hpg hpt hpe hs I h) fun v s1 h1 => ?_)
  obtain ⟨Y, a, go, gn, n, τ, Dn, Et, rfl, ep, ew, isG, aw, ig, hDn, hEt⟩ := h1
  refine Calls.spliced_nil ?_
  refine call_function_tree F.kind_all F.plain_all F.entry_all (F.args_all1 _) ?_
  unfold Builtin.«all»
  refine wpAny_bind (m := oneArg "all" _) (wpAny_pure ?_)
  refine wpAny_bind (wpAny_pyIter_gen ig ?_)
  refine wpAny_pure ⟨plainId_quiet F.plain_all_loop _, ?_⟩
  rw [← ep, ← ew]
  exact all_run hr.hd (by have := hr.dp; omega) isG hDn hEt n s1 aw
theorem pe_any {p pos : Pos} (hr : Room (k + 1) X.A) (hg : Gl X "any") (hm : X.mg "any" = none) (TB : TabB X.base X.mg c P) (hcode : X.env.code = .ref c) (ok : BlkOk X.N X.env.scope scope own) (S : GSc scope) (hN : X.N.Nodup) (hi : PI X tg iter wi)
    (hpg : ∀ B s H C code fp, Room k B → PG (gcx X B s H (gev X scope C code) fp) tg g) (hpt : ∀ B s H C code fp, Room k B → PTs (gcx X B s H (gev X scope C code) fp) ifs tt) (hpe : ∀ B s H C code fp, Room k B → PE (gcx X B s H (gev X scope C code) fp) elt te)
    (hs : ∀ v, genFold iter X.env v = pure v)
    (he : starEach [.GeneratorExp elt [⟨tg, iter, ifs, 0⟩] scope gpos] X.env = (false, eval (.GeneratorExp elt [⟨tg, iter, ifs, 0⟩] scope gpos) X.env) :: starEach [] X.env := by rfl) :
    PE X (.Call (.Name "any" p) [.GeneratorExp elt [⟨tg, iter, ifs, 0⟩] scope gpos] [] pos) (tGen false P wi g tt te (own.map (·.2))) := by
  refine ⟨fun pins s σ H Q I h => ?_⟩
  refine wpAny_Call_Name_kw (ld_blt I hg hm boot_any ?_)
  refine PyProof.Rows.callWith_builtin1 ?_ he (by rfl)
  rw [he]
  show wpAny _ _ (spliced ((false, eval (.GeneratorExp elt [⟨tg, iter, ifs, 0⟩] scope gpos) X.env) :: backTo pos (starEach [] X.env))) _ _ s
  refine Calls.spliced_cons (thn (gen_core hr TB hcode ok S hN hi hpg hpt hpe hs I h) fun v s1 h1 => ?_)
  obtain ⟨Y, a, go, gn, n, τ, Dn, Et, rfl, ep, ew, isG, aw, ig, hDn, hEt⟩ := h1
  refine Calls.spliced_nil ?_
  refine call_function_tree F.kind_any F.plain_any F.entry_any (F.args_any1 _) ?_
  unfold Builtin.«any»
  refine wpAny_bind (m := oneArg "any" _) (wpAny_pure ?_)
  refine wpAny_bind (wpAny_pyIter_gen ig ?_)
  refine wpAny_pure ⟨plainId_quiet F.plain_any_loop _, ?_⟩
  rw [← ep, ← ew]
  exact any_run hr.hd (by have := hr.dp; omega) isG hDn hEt n s1 aw
end
end GX
namespace PL
open PySem PySem.Spec PyProof.Rows L2 FR GX
variable [Nm]
/-! ### targets of a generator expression: what is told of the wiped slots stays -/
theorem wipe_put {x : Option V} {i : Nat} : ∀ (vs : List Nat) (σ : List (Option V)), wipe (σ.set i x) vs = if i ∈ vs then wipe σ vs else (wipe σ vs).set i x
  | [], σ => by simp [wipe]
  | v :: vs, σ => by
    have ih := wipe_put (x := x) (i := i) vs σ
    show (wipe (σ.set i x) vs).set v none = _
    rw [ih]
    by_cases e : i = v
    · subst e
      rw [if_pos List.mem_cons_self]
      show _ = (wipe σ vs).set i none
      split
      · rfl
      · rw [List.set_set]
    · by_cases m : i ∈ vs
      · rw [if_pos m, if_pos (List.mem_cons_of_mem _ m)]
        rfl
      · rw [if_neg m, if_neg (by simp [e, m]), List.set_comm _ _ e]
        rfl
theorem wipe_in {x : Option V} {i : Nat} {vs : List Nat} {σ : List (Option V)} (h : i ∈ vs) : wipe (σ.set i x) vs = wipe σ vs := by rw [wipe_put, if_pos h]
theorem wipe_wipe (σ : List (Option V)) : ∀ vs : List Nat, wipe (wipe σ vs) vs = wipe σ vs := fun vs => by
  have key : ∀ (us : List Nat) (τ : List (Option V)), (∀ u ∈ us, u ∈ vs) → wipe (wipe τ us) vs = wipe τ vs := by
    intro us
    induction us with
    | nil => intro τ _; rfl
    | cons u us ih =>
      intro τ h
      show wipe ((wipe τ us).set u none) vs = _
      rw [wipe_in (h u List.mem_cons_self), ih τ fun w hw => h w (List.mem_cons_of_mem _ hw)]
  exact key vs σ fun _ h => h
def wipeR (ρ : Rho) : List Nat → Rho
  | [] => ρ
  | v :: vs => (wipeR ρ vs).set v none
section
variable {K : PySem.W.Frag} {ρ ρ1 ρ2 : Rho} {I J L N : Asn} {ta tb tc te : TE} {d e : Dat} {t u : TT} {b c : Bool} {ts us : TS} {k : Out} {tr : TA} {q : Addr} {ds : List PyData} {x y : PyData} {vs : List Nat}
theorem env_wipe {G : Hp} {σ : List (Option V)} (h : EnvD K G σ ρ) : ∀ vs : List Nat, EnvD K G (wipe σ vs) (wipeR ρ vs)
  | [] => h
  | v :: vs => env_none (env_wipe h vs)
def GW (K : PySem.W.Frag) (g : TG) (vs : List Nat) (x : PyData) (ρ ρ' : Rho) : Prop := ∀ G H σ v (Q : L2.St → Hp → Prop), Same G H → EnvD K G σ ρ → Dp K G v x → (∀ σ', EnvD K G σ' ρ' → wipe σ' vs = wipe σ vs → Q σ' H) → g v σ H Q
def GWs (K : PySem.W.Frag) (g : TGs) (vs : List Nat) (xs : List PyData) (ρ ρ' : Rho) : Prop := ∀ G H σ us (Q : L2.St → Hp → Prop), Same G H → EnvD K G σ ρ → DpAll K G us xs → (∀ σ', EnvD K G σ' ρ' → wipe σ' vs = wipe σ vs → Q σ' H) → g us σ H Q
theorem w_name {i : Nat} (h : i ∈ vs) : GW K (gName i) vs x ρ (ρ.set i (some (.d x))) := fun G H σ v Q gh en dv q => q _ (env_set (d := .d x) dv en) (wipe_in h)
theorem w_tup {g : TGs} {n : Nat} (hn : ds.length = n) (h : GWs K g vs ds ρ ρ1) : GW K (gTup K n g) vs (.tuple ds) ρ ρ1 := fun G H σ v Q gh en dv q => by
  cases dv with
  | tup s r => exact ⟨_, _, rfl, same_t gh s, by rw [dpa_len r, hn], h G H σ _ Q gh en r q⟩
theorem w_nil : GWs K gNil vs [] ρ ρ := fun G H σ us Q gh en dv q => by
  cases dv
  exact ⟨rfl, q σ en rfl⟩
theorem w_cons {g : TG} {gs : TGs} (h : GW K g vs x ρ ρ1) (hs : GWs K gs vs ds ρ1 ρ2) : GWs K (gCons g gs) vs (x :: ds) ρ ρ2 := fun G H σ us Q gh en dv q => by
  cases dv with
  | cons a b => exact ⟨_, _, rfl, h G H σ _ _ gh en a fun σ' en' w => hs G H σ' _ Q gh en' b fun σ2 en2 w2 => q σ2 en2 (w2.trans w)⟩
/-! ### all(..), any(..) of a generator expression -/
/-- over items (passes the tests, the element): all, any -/
def genB (pol : Bool) (ks : List (Bool × Bool)) : Bool := if pol = true then ks.all fun p => !p.1 || p.2 else ks.any fun p => p.1 && p.2
theorem gen_end {pol : Bool} {ks : List (Bool × Bool)} (h : ∀ p ∈ ks, p.1 = true → p.2 = pol) : genB pol ks = pol := by
  unfold genB
  cases pol with
  | true =>
    rw [if_pos rfl, List.all_eq_true]
    intro p hp
    cases e : p.1 with
    | false => rfl
    | true => rw [h p hp e]; rfl
  | false =>
    rw [if_neg Bool.false_ne_true, Bool.eq_false_iff]
    intro z
    rw [List.any_eq_true] at z
    obtain ⟨p, hp, z⟩ := z
    rw [Bool.and_eq_true] at z
    have := h p hp z.1
    rw [z.2] at this
    cases this
theorem gen_out {pol : Bool} {ks : List (Bool × Bool)} {p : Bool × Bool} (hp : p ∈ ks) (h1 : p.1 = true) (h2 : p.2 ≠ pol) : genB pol ks = !pol := by
  unfold genB
  cases pol with
  | true =>
    rw [if_pos rfl]
    show _ = false
    rw [Bool.eq_false_iff]
    intro z
    rw [List.all_eq_true] at z
    have := z p hp
    rw [h1] at this
    exact h2 (by simpa using this)
  | false =>
    rw [if_neg Bool.false_ne_true]
    show _ = true
    rw [List.any_eq_true]
    refine ⟨p, hp, ?_⟩
    rw [h1]
    cases e : p.2 with
    | true => rfl
    | false => exact (h2 e).elim
section
variable {g : TG} {tt : TT} {pol : Bool} {P : Addr} {ks : List (Bool × Bool)}
/-- one place of the walk -/
theorem word_of {J' : It} {n : Nat} {τ : L2.St} {Dn Et : Hp → Prop} {G1 : Hp} {xs : List V} (hks : ks.length = n) (hds : ds.length = n) (r : DpAll K G1 xs ds) (en : EnvD K G1 τ (wipeR ρ vs)) (hτ : wipe τ vs = τ)
    (hgo : ∀ i G' H, i < n → Same G1 G' → Same G' H → J'.go i H) (hst : ∀ G' H, Same G1 G' → Same G' H → J'.stop n H) (hy : ∀ i G' H x H', Same G1 G' → Same G' H → J'.yld i H x H' → H' = H ∧ xs[i]? = some x)
    (he : ∀ (i : Nat) (x : PyData) (p : Bool × Bool), ds[i]? = some x → ks[i]? = some p → ∃ ρ', GW K g vs x (wipeR ρ vs) ρ' ∧ T K tt ρ' I p.1 I ∧ (p.1 = true → E K te ρ' I (.b p.2) I))
    (hDn : ∀ G' H, Same G1 G' → Same G' H → I.ok G' H → genB pol ks = pol → Dn H) (hEt : ∀ G' H, Same G1 G' → Same G' H → I.ok G' H → genB pol ks = !pol → Et H) :
    Word J' g tt te vs τ pol Dn Et fun i m H => m = n - i ∧ i ≤ n ∧ (∃ G', Same G1 G' ∧ Same G' H ∧ I.ok G' H) ∧ ∀ p ∈ ks.take i, p.1 = true → p.2 = pol := by
  refine ⟨fun i m H ⟨hm, hi, ⟨G', a1, a2, a3⟩, hp⟩ => ?_⟩
  by_cases c : i < n
  · refine .inr ⟨hgo i G' H c a1 a2, fun H' => (∃ G2, Same G1 G2 ∧ Same G2 H' ∧ I.ok G2 H') ∧ ∀ p ∈ ks.take (i + 1), p.1 = true → p.2 = pol, fun H' z => ⟨n - (i + 1), by omega, rfl, c, z⟩, fun x H' y => ?_⟩
    obtain ⟨rfl, hx⟩ := hy i G' H x H' a1 a2 y
    have hkk : ks[i]? = some ks[i] := List.getElem?_eq_getElem (by omega)
    have hdd : ds[i]? = some ds[i] := List.getElem?_eq_getElem (by omega)
    obtain ⟨v, h1, h2⟩ := dpa_get r hdd
    rw [hx] at h1
    obtain rfl := Option.some.inj h1
    obtain ⟨ρ', hg, ht, hel⟩ := he i _ _ hdd hkk
    refine hg G' H' τ x _ a2 (env_mono a1 en) (dp_mono a1 _ _ h2) fun σ' en' hw => ⟨hw.trans hτ, ?_⟩
    refine ht G' H' σ' a2 en' a3 _ fun G2 H2 g2 gh2 j2 => ?_
    have tk : ks.take (i + 1) = ks.take i ++ [ks[i]] := by rw [List.take_add_one, hkk]; rfl
    cases e1 : ks[i].1 with
    | false =>
      rw [if_neg Bool.false_ne_true]
      refine ⟨⟨G2, a1.trans g2, gh2, j2⟩, fun p hp' hp1 => ?_⟩
      rw [tk] at hp'
      rcases List.mem_append.mp hp' with z | z
      · exact hp p z hp1
      · rw [List.mem_singleton.mp z, e1] at hp1
        cases hp1
    | true =>
      rw [if_pos rfl]
      refine hel e1 G2 H2 σ' gh2 (env_mono g2 en') j2 _ fun v G3 H3 g3 gh3 j3 dv => ⟨ks[i].2, dv_bl dv, ?_⟩
      have g13 := (a1.trans g2).trans g3
      by_cases e2 : ks[i].2 = pol
      · rw [if_pos e2]
        refine ⟨⟨G3, g13, gh3, j3⟩, fun p hp' hp1 => ?_⟩
        rw [tk] at hp'
        rcases List.mem_append.mp hp' with z | z
        · exact hp p z hp1
        · rw [List.mem_singleton.mp z]
          exact e2
      · rw [if_neg e2]
        exact hEt G3 H3 g13 gh3 j3 (gen_out (List.getElem_mem (by omega)) e1 e2)
  · have e : i = n := by omega
    subst e
    refine .inl ⟨hst G' H a1 a2, hDn G' H a1 a2 a3 (gen_end ?_)⟩
    rw [List.take_of_length_le (by omega)] at hp
    exact hp
/-- the table has grown -/
theorem tab_step {G H H2 : Hp} {T : Tbs} (hP : P ∈ T.gs) (tb : TabsIn T G H) (gh : Same G H) (z : GxR.Tabbed P H H2) : Stp NoA G H G H2 := by
  obtain ⟨⟨qs, hq, tq⟩, ho⟩ := z
  obtain ⟨ps, hp, tp⟩ := tb.1 P hP
  obtain ⟨rs, hr, _⟩ := gh P _ hp
  have st := Stp.tab (qs := qs) gh (by rw [hp]; exact fun z => by cases z) hr fun _ => tq
  have e : upd H P (.tbl qs) = H2 := by
    funext b
    by_cases h : b = P
    · rw [h, upd_same, hq]
    · rw [upd_ne h, ho b h]
  rw [e] at st
  exact st
theorem tabG_of {G H : Hp} {T : Tbs} (hP : P ∈ T.gs) (tb : TabsIn T G H) (gh : Same G H) : GxR.TabG H P := by
  obtain ⟨ps, hp, tp⟩ := tb.1 P hP
  obtain ⟨rs, hr, t⟩ := gh P _ hp
  exact ⟨rs, hr, t tp⟩
theorem e_genT {tl : TE} {T' : Tbs} [hT : HasT T' I] (hP : P ∈ T'.gs) (hl : E K tl ρ I (.t ds) I) (hks : ks.length = ds.length)
    (he : ∀ (i : Nat) (x : PyData) (p : Bool × Bool), ds[i]? = some x → ks[i]? = some p → ∃ ρ', GW K g vs x (wipeR ρ vs) ρ' ∧ T K tt ρ' I p.1 I ∧ (p.1 = true → E K te ρ' I (.b p.2) I)) :
    E K (tGen pol P (iTup K tl) g tt te vs) ρ I (.b (genB pol ks)) I := fun G H σ gh en io Q q => hl G H σ gh en io _ fun v G1 H1 g1 gh1 j1 dv => by
  cases dv with
  | tup s r =>
    rename_i a xs
    refine ⟨a, rfl, ⟨_, same_t gh1 s⟩, tabG_of hP (hT.get _ _ j1) gh1, fun H2 z => ?_⟩
    have st := tab_step hP (hT.get _ _ j1) gh1 z
    refine ⟨_, ⟨ds.length, rfl, Nat.zero_le _, ⟨G1, Same.refl _, st.gh, Asn.pure_st st j1⟩, fun p hp => by simp at hp⟩, word_of hks rfl r (env_wipe (env_mono g1 en) vs) (wipe_wipe σ vs) (fun i G' H' hi b1 b2 => ?_) (fun G' H' b1 b2 => ⟨xs, same_t (b1.trans b2) s, Nat.le_of_eq (dpa_len r)⟩) (fun i G' H' x H'' b1 b2 y => ⟨y.1, y.2 xs (same_t (b1.trans b2) s)⟩) he (fun G' H' b1 b2 b3 e => ?_) (fun G' H' b1 b2 b3 e => ?_)⟩
    · have hx : i < xs.length := by rw [dpa_len r]; exact hi
      exact ⟨xs, xs[i], same_t (b1.trans b2) s, List.getElem?_eq_getElem hx⟩
    · exact q _ G' H' (g1.trans b1) b2 b3 (by rw [e]; exact .bl pol)
    · exact q _ G' H' (g1.trans b1) b2 b3 (by rw [e]; exact .bl (!pol))
theorem t_yes : T K tYes ρ I true I := fun G H σ gh en io Q q => q G H (Same.refl _) gh io
end
end
/-! ### defs with a table -/
structure FunC (K : PySem.W.Frag) (x qual : Str) (st : Stmt) (f : Addr) (fd : FuncData) (c : Addr) : Prop where
  ex : ∃ (oc : Value) (od : Option Addr) (kV doc pm : Value) (an : Option Addr) (ct : Value) (osl : Array (Option Value)),
    fd = PySem.W.fnOf x qual (defArgs st) (defBody st) (defScope st) .none kV doc pm an (.ref c) ct ∧ K.lookup f = some ⟨oc, od, .func fd, osl⟩ ∧ PySem.W.codeIn K (.ref c) qual = true
  kp : PySem.W.keepIn K (.ref f) = true
section
variable {P : Program} {w : World} {K : PySem.W.Frag} {mg : Str → Option Value} {base : Heap}
theorem FunC.of {x qual : Str} {st : Stmt} {f c : Addr} {fd : FuncData} (F : FunC K x qual st f fd c) : Fun K x qual st f fd := by
  obtain ⟨oc, od, kV, doc, pm, an, ct, osl, e, l, k⟩ := F.ex
  exact ⟨⟨oc, od, kV, doc, pm, an, _, ct, osl, e, l, k⟩, F.kp⟩
theorem FunC.okC {CX : CXT} {x qual : Str} {st : Stmt} {f c : Addr} {fd : FuncData} {N ps : List Str} {k : Nat} {sp : Sp} (F : FunC K x qual st f fd c) (S : FnScope N ps (defScope st)) (len : ∀ vs H Q E, sp vs H Q E → vs.length = ps.length)
    (hbody : ∀ (A : Around) (outer : List Env) (s : Shared) (H : Hp) (vs : List V) (Q : VK) (E : XK), Room k (A.deeper (envOfC qual (defScope st) s.heap.objs.size f (.ref c))) → sp vs H Q E →
      ∃ t, PSs (cxOf CX P w K mg base N qual (defScope st) f (.ref c) A outer s H E) (defBody st) t ∧ t { nx := fun _ H' => Q .non H', rt := Q } (L2.start N vs) H) : FnOk P w K mg base CX (k + 1) f fd ps sp := by
  obtain ⟨oc, od, kV, doc, pm, an, ct, osl, rfl, lk, hcd⟩ := F.ex
  exact fn_of lk hcd S len fun A outer s H vs Q E hr hsp => hbody A outer s H vs Q E hr hsp
theorem FunC.ok {x qual : Str} {st : Stmt} {f c : Addr} {fd : FuncData} {N ps : List Str} {k : Nat} {sp : Sp} (F : FunC K x qual st f fd c) (S : FnScope N ps (defScope st)) (len : ∀ vs H Q E, sp vs H Q E → vs.length = ps.length)
    (hbody : ∀ (A : Around) (outer : List Env) (s : Shared) (H : Hp) (vs : List V) (Q : VK) (E : XK), Room k (A.deeper (envOfC qual (defScope st) s.heap.objs.size f (.ref c))) → sp vs H Q E →
      ∃ t, PSs (cxOf CX0 P w K mg base N qual (defScope st) f (.ref c) A outer s H E).nox (defBody st) t ∧ t { nx := fun _ H' => Q .non H', rt := Q } (L2.start N vs) H) : FnOk P w K mg base CX0 (k + 1) f fd ps sp :=
  F.okC S len fun A outer s H vs Q E hr hsp => by
    obtain ⟨t, h, q⟩ := hbody A outer s H vs Q E hr hsp
    exact ⟨t, h.nox, q⟩
theorem funC_mk {x qual : Str} {st : Stmt} {f c : Addr} {oc : Value} {od an : Option Addr} {osl : Array (Option Value)} {kV doc pm cdv ct : Value} (l : K.lookup f = some ⟨oc, od, .func (PySem.W.fnOf x qual (defArgs st) (defBody st) (defScope st) .none kV doc pm an cdv ct), osl⟩)
    (e : cdv = .ref c) (k1 : PySem.W.codeIn K cdv qual = true) (k : PySem.W.keepIn K (.ref f) = true) : FunC K x qual st f (PySem.W.fnOf x qual (defArgs st) (defBody st) (defScope st) .none kV doc pm an cdv ct) c := by
  subst e
  exact ⟨⟨oc, od, kV, doc, pm, an, ct, osl, rfl, l, k1⟩, k⟩
/-- the code object of a def of the top -/
theorem code_eq {x : Str} {f c P' : Addr} {oc : Value} {od : Option Addr} {fd : FuncData} {osl : Array (Option Value)} (hn : PySem.W.nsIn K mainGlobals x = some (some (.ref f))) (l : K.lookup f = some ⟨oc, od, .func fd, osl⟩) (t : PySem.W.tabIn K x = some (c, P')) : fd.code = .ref c := by
  unfold PySem.W.tabIn at t
  rw [hn] at t
  simp only [l] at t
  split at t
  · rename_i c2 hc
    split at t
    · split at t
      · cases t
        exact hc
      · cases t
    · cases t
  · cases t
end
theorem tab_in {K : PySem.W.Frag} {x : Str} {f c P : Addr} {oc : Value} {od : Option Addr} {fd : FuncData} {osl : Array (Option Value)} {uc : Value} {ud : Option Addr} {uv : Array Value} {us : Array (Option Value)} (hn : PySem.W.nsIn K mainGlobals x = some (some (.ref f))) (l : K.lookup f = some ⟨oc, od, .func fd, osl⟩) (hc : fd.code = .ref c)
    (u : K.lookup c = some ⟨uc, ud, .fields uv, us⟩) (hv : (uv[11]? : Option Value) = some (.ref P)) : PySem.W.tabIn K x = some (c, P) := by
  unfold PySem.W.tabIn
  rw [hn]
  simp only [l, hc, u, hv]
/-- a law whose defs write tables; the ground of the head is told -/
theorem walk_ofG {l : PySem.W.OpenLaw} {n k : Nat} {q : Program} {loose : List Str} {XP : (Str → Option Value) → Heap → Prop} {YP : World → Heap → Prop} {d : DefRec} {K : Params → PySem.W.Frag} {CX : World → CXT} {x : Str}
    (hn : l.most = some n) (hn2 : n ≤ sizeLine) (hdf : d.params.defaults = []) (hr : Room k callerA) (hY : ∀ (w : World) (h : Heap), YP w h → (K w.params).In h)
    (F : ∀ (w : World) (mg : Str → Option Value) (fa : Addr) (h : Heap), (K w.params).In h → h.Ns mainGlobals mg → mg d.name = some (.ref fa) →
      (∀ (y : Str) (c P : Addr), ((recsOf q).any fun e => e.name == y) = true → PySem.W.tabIn (K w.params) y = some (c, P) → PySem.W.CodeHd h c P ∧ h.get? P = some { cls := .none, data := .fields #[] }) → LamX.LawAtS l w (K w.params) (CX w) k n x mg fa h)
    (hCX : ∀ (w : World) (H : Hp) (s : Shared) (e : Value) (s' : Shared), CX w [] H s (fun _ _ _ => False) e s' → False) :
    PySem.W.WalkO q loose XP YP l.row.toRowW d [] (fun f vs => PySem.call f vs) := by
  refine Att.attach_callB hn hdf fun w s₀ s₁ mg mb fa o pm cd doc a vs ns G Y ho hd hcd hmg hobj hints hlen hbits hg => ?_
  have kx := hY w _ Y
  obtain ⟨fd, cs, sp, hT, nT, C, hb, hsp, hF⟩ := F w mg fa _ kx G.T.g hmg fun y c P hy ht => by
    obtain ⟨d', hd'⟩ : ∃ d', (recsOf q).find? (fun e => e.name == y) = some d' := by
      rw [← Option.isSome_iff_exists, List.find?_isSome]
      rw [List.any_eq_true] at hy
      exact hy
    exact PySem.W.tab_of G.T kx hd' ht
  exact LamX.law_callTs kx G.T.g G.T.b G.T.builtins G.T.nolimit hg hT nT C G.T.bmain hobj hints (Nat.le_trans hlen hn2) hr hF hb (fun H hH hS => hsp H a ns hlen hbits hH hS) fun H e s' => hCX w H s₁ e s'
end PL
set_option maxHeartbeats 1000000
/-! list(zip(x, y)) of two pairs -/
namespace PL
open PySem PySem.Spec PyProof.Rows L2 FR
end PL
/-! defs called within an except suite, with the caught error; try statements of any body -/
namespace PX
open PySem PySem.Spec PyProof.Rows L2 L2H
/-! ### isinstance of the caught error -/
/-! ### the call -/
/-! ### try statements: what is told of the body by the wish -/
def tTryO (K : PySem.W.Frag) (c : Value) (ts : Addr → Value → Option Addr → TS) (Wo : WX) (tb : WX → TS) : TS := fun D σ H => tb (wOnly K c ts Wo D) D σ H
section
variable {X : Cx} {x n : Str} {c : Value} {i : Nat} {B R : List Stmt} {b : Stmt} {p1 p2 p3 : Pos} {tb : WX → TS} {ts : Addr → Value → Option Addr → TS} {Wo : WX}
theorem tryO (h1 : X.stack = X.env :: X.outer) (h2 : X.env.frame = some X.env.locals) (h6 : Names X x c) (h7 : Takes X Wo)
    (hB : ∀ (W : WX) (q : List (Addr × Obj)) (e : Value → Shared → Prop), Takes (X.tr q e) W → PassesOwn (model X.prog X.w) X.A X.env e → PSs (X.tr q e) B (tb W))
    (hR : ∀ (a : Addr) (oe : Obj) (k : Value) (d : Option Addr) (q : List (Addr × Obj)), Zc k d oe → (∃ us, oe.data = .fields us) → PSs (X.suite a ((a, oe) :: q)) (b :: R) (ts a k d)) :
    PS X (.Try B [.ExceptHandler (some (.Name x p1)) none (b :: R) p2] [] [] p3) (tTryO X.K c ts Wo tb) := ps_try_only h1 h2 h6 h7 hB hR
end
end PX
namespace PL
open PySem PySem.Spec PyProof.Rows L2 FR GX PX
variable [Nm]
section
variable {K : PySem.W.Frag} {ρ ρ1 : Rho} {I J L N : Asn} {ta tb te : TE} {d e : Dat} {t u : TT} {b c : Bool} {ts us : TS} {k : Out} {tr : TA} {ds : List Dat} {tabs : Tbs}
/-! ### try statements of any body -/
def Asn.frm (G0 : Hp) : Asn := ⟨NoA, fun G _ => Same G0 G, fun _ _ _ _ _ _ s h => h.trans s.gg, fun _ _ _ _ z => z.elim⟩
theorem s_tryNO {tb : WX → TS} {c : Value} {tsu : Addr → Value → Option Addr → TS} {Wo : WX} (h : ∀ W, S K (tb W) ρ I k) : S K (tTryO K c tsu Wo tb) ρ I k := fun G H σ D gh en io f => h (wOnly K c tsu Wo D) G H σ D gh en io f
theorem e_callSX {R : List Dat → Res → Prop} {W : WX} [hT : HasT tabs J] (hr : A K tr ρ I ds J) (h : R ds (.ok d)) : E K (tCallS (spXT K tabs R) (WE W) tr) ρ I d J := fun G H σ gh en io Q q => hr G H σ gh en io _ fun vs G1 H1 g1 gh1 j1 dvs =>
  ⟨G1, ds, .ok d, gh1, dvs, h, hT.get _ _ j1, fun v G2 H2 s dv => q v G2 H2 (g1.trans s.gg) s.gh (Asn.pure_st s j1) dv⟩
/-- a call that raises within a try -/
theorem e_callSE {R : List Dat → Res → Prop} {W : WX} {C : Addr} [hT : HasT tabs J] (hr : A K tr ρ I ds J) (h : R ds (.err C)) (hW : ∀ G H σ, Same G H → EnvD K G σ ρ → J.ok G H → W (.ref C) none σ H) : E K (tCallS (spXT K tabs R) (WE W) tr) ρ I d L := fun G H σ gh en io Q q => hr G H σ gh en io _ fun vs G1 H1 g1 gh1 j1 dvs =>
  ⟨G1, ds, .err C, gh1, dvs, h, hT.get _ _ j1, fun G2 H2 s => hW G2 H2 σ s.gh (env_mono (g1.trans s.gg) en) (Asn.pure_st s j1)⟩
abbrev Out.nil : Out := .fin fun _ _ _ => False
theorem s_tryXO {tb : WX → TS} {c : Value} {C : Addr} {tsu : Addr → Value → Option Addr → TS} {Wo : WX} {ρx : Rho} {Jx : Asn} (he : PySem.W.exmOne K (.ref C) c = some true) (hs : ∀ a, S K (tsu a (.ref C) none) ρx Jx k)
    (hb : ∀ (W : WX) (G0 : Hp), (∀ G H σ, Same G0 G → Same G H → EnvD K G σ ρx → Jx.ok G H → W (.ref C) none σ H) → S K (tb W) ρ (I.and (Asn.frm G0)) .nil) : S K (tTryO K c tsu Wo tb) ρ I k := fun G H σ D gh en io f =>
  hb (wOnly K c tsu Wo D) G (fun G1 H1 σ1 g1 gh1 en1 j1 => ⟨true, he, fun _ a na => hs a G1 H1 σ1 D gh1 en1 j1 (f.mono g1), fun z => nomatch z⟩) G H σ D gh en ⟨io, Same.refl G⟩ fun _ _ _ _ _ z => z.elim
instance hasT_and {T : Tbs} {G0 : Hp} [h : HasT T J] : HasT T (J.and (Asn.frm G0)) := ⟨fun G H z => h.get G H z.1⟩
/-! ### texts -/
/-- k not in (0, 1) -/
theorem e_axis {n : Int} (ha : E K ta ρ I (.i n) J) (hb : E K tb ρ J (.t [.int 0, .int 1]) L) : E K (tOp (rIn K true) ta tb) ρ I (.b (!(decide (n = 0) || decide (n = 1)))) L :=
  e_op ha hb fun G H v w gh lo dx dy Q q => by
    obtain rfl := dv_int dx
    cases dy with
    | tup s r =>
      cases r with
      | cons r0 r =>
        cases r with
        | cons r1 r =>
          cases r
          cases r0
          cases r1
          refine ⟨_, _, rfl, .inr (same_t gh s), rfl, rfl, ?_⟩
          have e : (if true = true then !inV (.int n) [V.int 0, V.int 1] else inV (.int n) [V.int 0, V.int 1]) = !(decide (n = 0) || decide (n = 1)) := by
            rw [if_pos rfl]
            show (!((0 : Int) == n || ((1 : Int) == n || false))) = _
            congr 1
            have h0 : ((0 : Int) == n) = decide (n = 0) := by
              by_cases c : n = 0
              · subst c; rfl
              · rw [decide_eq_false c]; exact beq_false_of_ne fun z => c z.symm
            have h1 : ((1 : Int) == n) = decide (n = 1) := by
              by_cases c : n = 1
              · subst c; rfl
              · rw [decide_eq_false c]; exact beq_false_of_ne fun z => c z.symm
            rw [h0, h1, Bool.or_false]
          rw [e]
          exact q _ G H (Same.refl _) gh lo (.bl _)
theorem cxHK {CX : CXT} {P : Program} {w : World} {K : PySem.W.Frag} {mg : Str → Option Value} {base : Heap} {N : List Str} {q : Str} {sc : Scope} {f : Addr} {cd : Value} {A : Around} {o : List Env} {s : Shared} {H : Hp} {E : XK} {p : Addr × Obj} :
    (L2H.cxH CX P w K mg base N q sc f cd A o s H E p).K = K := rfl
end
end PL
/-! walks, loops with a state that is told by a wish, draws of which bounds are told, dicts, tuples -/
namespace PL
open PySem PySem.Spec PyProof.Rows L2 FR GX PX
variable [Nm]
section
variable {K : PySem.W.Frag} {ρ ρ1 : Rho} {I J L N : Asn} {ta tb tc te : TE} {d e : Dat} {t u : TT} {b c : Bool} {ts us : TS} {k : Out} {tr : TA} {ds : List PyData} {x y : PyData}
/-! ### walks -/
/-- J walks over n items, the i-th is xs i; each turn may lay new objects -/
structure Walk (K : PySem.W.Frag) (J : It) (n : Nat) (xs : Nat → PyData) (G1 : Hp) : Prop where
  go : ∀ i G H, i < n → Same G1 G → Same G H → J.go i H
  stop : ∀ G H, Same G1 G → Same G H → J.stop n H
  yld : ∀ i G H v H', i < n → Same G1 G → Same G H → J.yld i H v H' → ∃ G', Stp NoA G H G' H' ∧ Dp K G' v (xs i)
theorem walk_t {G : Hp} {a : Addr} {vs : List V} {xs : Nat → PyData} (s : SqT K G a vs) (r : DpAll K G vs ds) (hx : ∀ i, i < ds.length → ds[i]? = some (xs i)) : Walk K (Itt K a) ds.length xs G := by
  have lx := dpa_len r
  refine ⟨fun i G2 H hi a1 a2 => ⟨vs, vs[i]'(by omega), same_t (a1.trans a2) s, List.getElem?_eq_getElem (by omega)⟩, fun G2 H a1 a2 => ⟨vs, same_t (a1.trans a2) s, by omega⟩, fun i G2 H v H' hi a1 a2 y => ?_⟩
  obtain ⟨rfl, y2⟩ := y
  obtain ⟨w, h1, h2⟩ := dpa_get r (hx i hi)
  obtain rfl : v = w := Option.some.inj ((y2 vs (same_t (a1.trans a2) s)).symm.trans h1)
  exact ⟨G2, Stp.refl a2, dp_mono a1 _ _ h2⟩
theorem walk_l {G : Hp} {a : Addr} {vs : List V} {xs : Nat → PyData} (s : SqL K G a vs) (r : DpAll K G vs ds) (hx : ∀ i, i < ds.length → ds[i]? = some (xs i)) : Walk K (Itl K a) ds.length xs G := by
  have lx := dpa_len r
  refine ⟨fun i G2 H hi a1 a2 => ⟨vs, vs[i]'(by omega), (a1.trans a2).seq s, List.getElem?_eq_getElem (by omega)⟩, fun G2 H a1 a2 => ⟨vs, (a1.trans a2).seq s, by omega⟩, fun i G2 H v H' hi a1 a2 y => ?_⟩
  obtain ⟨rfl, y2⟩ := y
  obtain ⟨w, h1, h2⟩ := dpa_get r (hx i hi)
  obtain rfl : v = w := Option.some.inj ((y2 vs ((a1.trans a2).seq s)).symm.trans h1)
  exact ⟨G2, Stp.refl a2, dp_mono a1 _ _ h2⟩
theorem walk_r {G : Hp} {lo : Int} {n : Nat} : Walk K (Itr lo n) n (fun i => .int (lo + (i : Nat))) G :=
  ⟨fun i _ _ hi _ _ => hi, fun _ _ _ _ => Nat.le_refl _, fun i G2 H v H' hi a1 a2 y => by
    obtain ⟨rfl, rfl⟩ := y
    exact ⟨G2, Stp.refl a2, .int _⟩⟩
theorem walk_e {G : Hp} {a : Addr} {vs : List V} {xs : Nat → PyData} (s : SqL K G a vs) (r : DpAll K G vs ds) (hx : ∀ i, i < ds.length → ds[i]? = some (xs i)) : Walk K (Ite K a) ds.length (fun i => .tuple [.int (i : Nat), xs i]) G := by
  have lx := dpa_len r
  refine ⟨fun i G2 H hi a1 a2 => ⟨vs, vs[i]'(by omega), (a1.trans a2).seq s, List.getElem?_eq_getElem (by omega)⟩, fun G2 H a1 a2 => ⟨vs, (a1.trans a2).seq s, by omega⟩, fun i G2 H v H' hi a1 a2 y => ?_⟩
  obtain ⟨q, x, rfl, nq, rfl, y2⟩ := y
  obtain ⟨w, h1, h2⟩ := dpa_get r (hx i hi)
  obtain rfl : x = w := Option.some.inj ((y2 vs ((a1.trans a2).seq s)).symm.trans h1)
  have st := Stp.new (o := .tup [.int (i : Nat), x]) a2 nq
  exact ⟨_, st, .tup (.inl (.inl upd_same)) (.cons (.int _) (.cons (dp_mono (a1.trans st.gg) _ _ h2) .nil))⟩
/-- how an iterable is walked -/
def IW (K : PySem.W.Frag) (wi : TI) (ρ : Rho) (I : Asn) (n : Nat) (xs : Nat → PyData) (J : Asn) : Prop :=
  ∀ G H σ, Same G H → EnvD K G σ ρ → I.ok G H → ∀ R : It → Hp → Prop, (∀ Ji G2 H2, Same G G2 → Same G2 H2 → J.ok G2 H2 → Walk K Ji n xs G2 → R Ji H2) → wi σ H R
abbrev at0 (ds : List PyData) (i : Nat) : PyData := ds.getD i .none
theorem at0_get {i : Nat} (hi : i < ds.length) : ds[i]? = some (at0 ds i) := by
  unfold at0
  rw [List.getD_eq_getElem?_getD, List.getElem?_eq_getElem hi]
  rfl
theorem iw_t {tl : TE} (h : E K tl ρ I (.t ds) J) : IW K (iTup K tl) ρ I ds.length (at0 ds) J := fun G H σ gh en io R r => h G H σ gh en io _ fun v G1 H1 g1 gh1 j1 dv => by
  cases dv with
  | tup s r1 => exact ⟨_, rfl, ⟨_, same_t gh1 s⟩, r _ G1 H1 g1 gh1 j1 (walk_t s r1 fun i hi => at0_get hi)⟩
theorem iw_l {tl : TE} (h : E K tl ρ I (.d (.list ds)) J) : IW K (iList K tl) ρ I ds.length (at0 ds) J := fun G H σ gh en io R r => h G H σ gh en io _ fun v G1 H1 g1 gh1 j1 dv => by
  cases dv with
  | lst s r1 => exact ⟨_, rfl, ⟨_, gh1.seq s⟩, r _ G1 H1 g1 gh1 j1 (walk_l s r1 fun i hi => at0_get hi)⟩
theorem iw_ll {tl : TE} (h : E K tl ρ I (.l ds) J) : IW K (iList K tl) ρ I ds.length (at0 ds) J := iw_l (e_l2d h)
theorem iw_e {tl : TA} (h : A K tl ρ I [.d (.list ds)] J) : IW K (iEnum K tl) ρ I ds.length (fun i => .tuple [.int (i : Nat), at0 ds i]) J := fun G H σ gh en io R r => h G H σ gh en io _ fun vs G1 H1 g1 gh1 j1 dv => by
  obtain ⟨v, rfl, dw⟩ := dva1 dv
  cases dw with
  | lst s r1 => exact ⟨_, _, rfl, gh1.seq s, r _ G1 H1 g1 gh1 j1 (walk_e s r1 fun i hi => at0_get hi)⟩
theorem iw_r {tl : TA} {n : Nat} (h : A K tl ρ I [.i (n : Nat)] J) (hn : n ≤ 1000000) : IW K (iRng1 tl) ρ I n (fun i => .int (i : Nat)) J := fun G H σ gh en io R r => h G H σ gh en io _ fun vs G1 H1 g1 gh1 j1 dv => by
  obtain ⟨v, rfl, dw⟩ := dva1 dv
  obtain rfl := dv_int dw
  refine ⟨(n : Int), rfl, by omega, by omega, r _ G1 H1 g1 gh1 j1 ?_⟩
  rw [Int.toNat_natCast]
  have w := walk_r (K := K) (G := G1) (lo := 0) (n := n)
  exact ⟨w.go, w.stop, fun i G2 H v H' hi a1 a2 y => by
    obtain ⟨G', st, dp⟩ := w.yld i G2 H v H' hi a1 a2 y
    rw [Int.zero_add] at dp
    exact ⟨G', st, dp⟩⟩
/-! ### outcomes -/
/-- what binds a return alone -/
def Out.ret (k : Out) : Prop := (∃ d J, k = .rt d J) ∨ ∃ P, k = .fin P
theorem ret_rt {d : Dat} {J : Asn} : Out.ret (.rt d J) := .inl ⟨_, _, rfl⟩
theorem ret_fin {P : V → Hp → Hp → Prop} : Out.ret (.fin P) := .inr ⟨_, rfl⟩
theorem Out.ret.other {k : Out} (h : k.ret) {D D' : Ends} {G : Hp} (e : D'.rt = D.rt) (f : Fin K D G k) : Fin K D' G k := by
  rcases h with ⟨d, J, rfl⟩ | ⟨P, rfl⟩
  · intro v G2 H2 a b c dv
    rw [e]
    exact f v G2 H2 a b c dv
  · intro v G2 H2 a b c
    rw [e]
    exact f v G2 H2 a b c
/-- nothing comes behind -/
theorem s_stopR (hk : k.ret) (h : S K ts ρ I k) : S K (tSeq ts us) ρ I k := fun G H σ D gh en io f => h G H σ _ gh en io (hk.other (D := D) rfl f)
theorem s_any (h : S K ts ρ I .nil) : S K ts ρ I k := fun G H σ D gh en io f => h G H σ D gh en io fun _ _ _ _ _ z => z.elim
/-! ### loops: a state that keeps a wish -/
theorem s_loop {α : Type} {wi : TI} {g : TG} {n : Nat} {xs : Nat → PyData} (W : Nat → α → Prop) (P : α → Rho) (V : α → Asn) (a0 : α) (w0 : W 0 a0) (hl : IW K wi ρ I n xs (V a0)) (h0 : ρ = P a0)
    (step : ∀ i a, i < n → W i a → ∃ ρ', GJ K g (xs i) (P a) ρ' ∧ ((∃ a', W (i + 1) a' ∧ S K ts ρ' (V a) (.nx (P a') (V a'))) ∨ (k.ret ∧ S K ts ρ' (V a) k)))
    (done : ∀ a, W n a → S K us (P a) (V a) k) : S K (tSeq (tFor wi g ts) us) ρ I k := fun G H σ D gh en io f => by
  show tFor wi g ts { D with nx := fun σ' H' => us D σ' H' } σ H
  refine hl G H σ gh en io _ fun Ji G1 H1 g1 gh1 j1 wk => ?_
  refine ⟨fun i m σ' H' => m = n - i ∧ i ≤ n ∧ ∃ a G', W i a ∧ Same G1 G' ∧ Same G' H' ∧ EnvD K G' σ' (P a) ∧ (V a).ok G' H', ⟨n, rfl, Nat.zero_le _, a0, G1, w0, Same.refl _, gh1, h0 ▸ env_mono g1 en, j1⟩, fun i m σ' H' hw => ?_⟩
  obtain ⟨rfl, hi, a, G', wa, a1, a2, a3, a4⟩ := hw
  by_cases c : i < n
  · obtain ⟨ρ', hg, hs⟩ := step i a c wa
    rcases hs with ⟨a', wa', hs⟩ | ⟨hk, hs⟩
    · refine .inr ⟨wk.go i G' H' c a1 a2, fun σ2 H2 => ∃ G2, Same G1 G2 ∧ Same G2 H2 ∧ EnvD K G2 σ2 (P a') ∧ (V a').ok G2 H2, fun σ2 H2 ⟨G2, b1, b2, b3, b4⟩ => ⟨n - (i + 1), by omega, rfl, c, a', G2, wa', b1, b2, b3, b4⟩, fun v H2 y => ?_⟩
      obtain ⟨G2, st, dp⟩ := wk.yld i G' H' v H2 c a1 a2 y
      exact hg G2 H2 σ' v _ st.gh (env_mono st.gg a3) dp fun σ2 en2 => hs G2 H2 σ2 _ st.gh en2 (Asn.pure_st st a4) fun G3 H3 σ3 g3 gh3 en3 j3 => ⟨G3, (a1.trans st.gg).trans g3, gh3, en3, j3⟩
    · refine .inr ⟨wk.go i G' H' c a1 a2, fun _ _ => False, fun _ _ z => z.elim, fun v H2 y => ?_⟩
      obtain ⟨G2, st, dp⟩ := wk.yld i G' H' v H2 c a1 a2 y
      exact hg G2 H2 σ' v _ st.gh (env_mono st.gg a3) dp fun σ2 en2 => hs G2 H2 σ2 _ st.gh en2 (Asn.pure_st st a4) (hk.other (D := D) rfl (((f.mono g1).mono a1).mono st.gg))
  · have e : i = n := by omega
    subst e
    exact .inl ⟨wk.stop G' H' a1 a2, done a wa G' H' σ' D a2 a3 a4 ((f.mono g1).mono a1)⟩
/-! ### comprehensions over any walk -/
theorem e_lcW {wi : TI} {g : TG} {vs : List Nat} {n : Nat} {xs : Nat → PyData} {es : List PyData} (hl : IW K wi ρ I n xs I) (hn : es.length = n) (hz : n ≤ 100000)
    (he : ∀ i y, i < n → es[i]? = some y → ∃ ρ', GW K g vs (xs i) (wipeR ρ vs) ρ' ∧ ∀ I', E K te ρ' I' (.d y) I') : E K (tLc wi g tYes te vs) ρ I (.d (.list es)) I := fun G H σ gh en io Q q =>
  hl G H σ gh en io _ fun Ji G1 H1 g1 gh1 j1 wk D hD => by
    have gD : G1 D = none := gh1.free hD
    have nD : ∀ a, I.foot a → ¬ a = D := fun a fa z => by
      obtain ⟨o, ho⟩ := I.own G1 H1 a j1 fa
      rw [z, hD] at ho
      cases ho
    have st0 := Stp.newM (o := HO.lst []) gh1 hD
    refine ⟨fun i m H' => m = n - i ∧ i ≤ n ∧ ∃ G', Same G1 G' ∧ Same G' H' ∧ I.ok G' H' ∧ (lA K D (es.take i)).ok G' H' ∧ Stp (· = D) G1 (upd H1 D (.lst [])) G' H', ⟨n, rfl, Nat.zero_le _, G1, Same.refl _, st0.gh, Asn.pure_st st0 j1, ⟨gD, [], upd_same, .nil⟩, Stp.refl st0.gh⟩, fun i m H' hw => ?_⟩
    obtain ⟨rfl, hi, G', a1, a2, a3, a4, a5⟩ := hw
    by_cases c : i < n
    · have hi3 : i < es.length := by omega
      obtain ⟨ρ', hg, hel⟩ := he i _ c (List.getElem?_eq_getElem hi3)
      refine .inr ⟨wk.go i G' H' c a1 a2, fun H2 => ∃ G2, Same G1 G2 ∧ Same G2 H2 ∧ I.ok G2 H2 ∧ (lA K D (es.take (i + 1))).ok G2 H2 ∧ Stp (· = D) G1 (upd H1 D (.lst [])) G2 H2, fun H2 z => ⟨n - (i + 1), by omega, rfl, c, z⟩, fun v H2 y => ?_⟩
      obtain ⟨G2, st, dp⟩ := wk.yld i G' H' v H2 c a1 a2 y
      refine hg G2 H2 _ v _ st.gh (env_wipe (env_mono ((g1.trans a1).trans st.gg) en) vs) dp fun σ' en' hw => ⟨hw.trans (wipe_wipe σ vs), ?_⟩
      refine hel (((lA K D (es.take i)).and I).and (Asn.since (· = D) G1 (upd H1 D (.lst [])))) G2 H2 _ st.gh en' ⟨⟨Asn.pure_st st a4, Asn.pure_st st a3⟩, a5.trans (st.wide fun _ z => z.elim)⟩ _ fun y G3 H3 g3 gh3 j3 dy => ?_
      obtain ⟨⟨⟨gq, ws, hq, r2⟩, i3⟩, st3⟩ := j3
      have st4 := Stp.store (o := HO.lst (ws ++ [y])) gh3 gq hq
      refine ⟨ws, hq, ?_, G3, (a1.trans st.gg).trans g3, st4.gh, I.st _ _ _ _ _ nD st4 i3, ⟨gq, _, upd_same, ?_⟩, st3.trans st4⟩
      · rw [dpa_len r2, List.length_take]
        exact Nat.lt_of_le_of_lt (Nat.min_le_left _ _) (Nat.lt_of_le_of_lt (show i ≤ 100000 by omega) (by decide))
      · rw [List.take_add_one, List.getElem?_eq_getElem hi3]
        exact dpa_app r2 (.cons dy .nil)
    · have ei : i = n := by omega
      subst ei
      obtain ⟨gq, ws, hq, r2⟩ := a4
      have st : Stp (· = D) G' H' (upd G' D (.lst ws)) H' := Stp.frz a2 gq hq
      refine .inl ⟨wk.stop G' H' a1 a2, q _ (upd G' D (.lst ws)) H' ((g1.trans a1).trans st.gg) st.gh (I.st _ _ _ _ _ nD st a3) (.lst (.inl (.inl upd_same)) (dp_monos st.gg _ ws ?_))⟩
      rw [show es = es.take i by rw [List.take_of_length_le (by omega)]]
      exact r2
/-! ### reading a list that may change, as if it never did -/
theorem env_putK {G : Hp} {q : Addr} {z : Dat} (hx : Dv K G (.ref q) z) : ∀ {σ : List (Option V)} {ρ : Rho} {i : Nat}, EnvD K G σ ρ → ρ[i]? = some (some (.r q)) → EnvD K G σ (ρ.set i (some z))
  | [], [], _, _, e => by simp at e
  | s :: _, o :: _, 0, h, e => by
    have eo : o = some (.r q) := by simpa using e
    obtain ⟨h1, h2⟩ := h
    rw [eo] at h1
    obtain ⟨v, h3, h4⟩ := h1
    exact ⟨⟨v, h3, by rw [show v = V.ref q from h4]; exact hx⟩, h2⟩
  | _ :: σ, _ :: ρ, i + 1, h, e => ⟨h.1, env_putK hx (i := i) h.2 (by simpa using e)⟩
  | [], _ :: _, _, h, _ => h.elim
  | _ :: _, [], _, h, _ => h.elim
/-! ### draws of which only bounds are told -/
/-! ### dicts -/
def valD (kvs : List (Key × PyData)) (k : Key) : Option PyData := (kvs.find? fun kv => decide (kv.1 = k)).map (·.2)
theorem kv_get {G : Hp} {ky : Key} : ∀ {vs : List (Key × V)} {kvs : List (Key × PyData)}, KvAll K G vs kvs → (valD kvs ky = none → valV vs ky = none) ∧ ∀ z, valD kvs ky = some z → ∃ v, valV vs ky = some v ∧ Dp K G v z
  | [], [], _ => ⟨fun _ => rfl, fun z h => by cases h⟩
  | (k1, v1) :: vs, (k2, x2) :: kvs, h => by
    obtain ⟨h1, h2⟩ := h
    have e : k1 = k2 ∧ vs.map (·.1) = kvs.map (·.1) := by simpa using h1
    obtain ⟨rfl, e2⟩ := e
    cases h2 with
    | cons r rr =>
      have ih := kv_get (ky := ky) (vs := vs) (kvs := kvs) ⟨e2, rr⟩
      unfold valD valV at ih ⊢
      by_cases c : k1 = ky
      · rw [List.find?_cons_of_pos (by simpa using c), List.find?_cons_of_pos (by simpa using c)]
        refine ⟨fun z => (by cases z), fun z hz => ?_⟩
        obtain rfl : x2 = z := Option.some.inj hz
        exact ⟨v1, rfl, r⟩
      · rw [List.find?_cons_of_neg (by simpa using c), List.find?_cons_of_neg (by simpa using c)]
        exact ih
  | [], _ :: _, h => by have := h.1; simp at this
  | _ :: _, [], h => by have := h.1; simp at this
theorem kv_mono {G G' : Hp} {vs : List (Key × V)} {kvs : List (Key × PyData)} (e : Same G G') (h : KvAll K G vs kvs) : KvAll K G' vs kvs := ⟨h.1, dp_monos e _ _ h.2⟩
theorem kv_some {G : Hp} {ky : Key} {vs : List (Key × V)} {kvs : List (Key × PyData)} (h : KvAll K G vs kvs) : (valV vs ky).isSome = (valD kvs ky).isSome := by
  obtain ⟨h1, h2⟩ := kv_get (ky := ky) h
  cases e : valD kvs ky with
  | none => rw [h1 e]; rfl
  | some z =>
    obtain ⟨v, hv, _⟩ := h2 z e
    rw [hv]
    rfl
theorem e_kNot {kvs : List (Key × PyData)} {n : Int} (ha : E K ta ρ I (.i n) J) (hb : E K tb ρ J (.k kvs) L) : E K (tDNotIn ta tb) ρ I (.b (!(valD kvs (.inl n)).isSome)) L := fun G H σ gh en io Q q => ha G H σ gh en io _ fun v G1 H1 g1 gh1 j1 dv => hb G1 H1 σ gh1 (env_mono g1 en) j1 _ fun w G2 H2 g2 gh2 j2 dw => by
  obtain rfl := dv_int dv
  obtain ⟨a, vs, rfl, ha, kv⟩ := dw
  refine ⟨a, valV vs (.inl n), rfl, .inl ⟨vs, .inl n, .of (gh2 _ _ ha), rfl, rfl⟩, ?_⟩
  rw [kv_some kv]
  exact q _ G2 H2 (g1.trans g2) gh2 j2 (.bl _)
theorem e_kGet {kvs : List (Key × PyData)} {n : Int} (ha : E K ta ρ I (.k kvs) J) (hb : E K tb ρ J (.i n) L) (h : valD kvs (.inl n) = some x) : E K (tDGet ta tb) ρ I (.d x) L := fun G H σ gh en io Q q => ha G H σ gh en io _ fun v G1 H1 g1 gh1 j1 dv => hb G1 H1 σ gh1 (env_mono g1 en) j1 _ fun w G2 H2 g2 gh2 j2 dw => by
  obtain ⟨a, vs, rfl, ha, kv⟩ := dv
  obtain rfl := dv_int dw
  obtain ⟨u, hu, dp⟩ := (kv_get (ky := .inl n) kv).2 x h
  exact ⟨a, u, rfl, .inl ⟨vs, .inl n, .of ((g2.trans gh2) _ _ ha), rfl, hu.symm⟩, q u G2 H2 (g1.trans g2) gh2 j2 (dp_mono g2 _ _ dp)⟩
/-- a dict that may change -/
def kA (K : PySem.W.Frag) (q : Addr) (kvs : List (Key × PyData)) : Asn := ⟨(· = q), fun G H => G q = none ∧ ∃ vs, H q = some (.dK vs) ∧ KvAll K G vs kvs, fun M G H G2 H2 n s ⟨g, vs, h, r⟩ => ⟨s.fr q _ (n q rfl) h g, vs, s.hh q _ (n q rfl) h, kv_mono s.gg r⟩, fun G H a ⟨_, vs, h, _⟩ (z : a = q) => ⟨.dK vs, by rw [z]; exact h⟩⟩
theorem kv_new {G : Hp} {ky : Key} {z : V} {zd : PyData} {vs : List (Key × V)} {kvs : List (Key × PyData)} (h : KvAll K G vs kvs) (hz : Dp K G z zd) (hn : ky ∉ kvs.map (·.1)) : KvAll K G (putK vs ky z) (kvs ++ [(ky, zd)]) ∧ (putK vs ky z).length = vs.length + 1 := by
  have e : (vs.any fun kv => decide (kv.1 = ky)) = false := by
    rw [Bool.eq_false_iff]
    intro w
    rw [List.any_eq_true] at w
    obtain ⟨kv, hm, hk⟩ := w
    refine hn ?_
    rw [← h.1, ← of_decide_eq_true hk]
    exact List.mem_map.mpr ⟨kv, hm, rfl⟩
  unfold putK
  rw [e, if_neg Bool.false_ne_true]
  refine ⟨⟨?_, ?_⟩, by rw [List.length_append]; rfl⟩
  · rw [List.map_append, List.map_append, h.1]
    rfl
  · rw [List.map_append, List.map_append]
    exact dpa_app h.2 (.cons hz .nil)
theorem kv_len {G : Hp} {vs : List (Key × V)} {kvs : List (Key × PyData)} (h : KvAll K G vs kvs) : vs.length = kvs.length := by
  have := congrArg List.length h.1
  simpa using this
def kvsOf (ks : List Int) (es : List PyData) : List (Key × PyData) := (ks.zip es).map fun p => (.inl p.1, p.2)
theorem kvs_keys {ks : List Int} {es : List PyData} (h : ks.length = es.length) : (kvsOf ks es).map (·.1) = ks.map Sum.inl := by
  unfold kvsOf
  rw [List.map_map]
  show (ks.zip es).map (fun p => (Sum.inl p.1 : Key)) = _
  have e := List.map_fst_zip (l₁ := ks) (l₂ := es) (by omega)
  calc (ks.zip es).map (fun p => (Sum.inl p.1 : Key)) = ((ks.zip es).map Prod.fst).map Sum.inl := by rw [List.map_map]; rfl
    _ = ks.map Sum.inl := by rw [e]
theorem kvs_snoc {ks : List Int} {es : List PyData} {i : Nat} {n : Int} {y : PyData} (h1 : ks[i]? = some n) (h2 : es[i]? = some y) : kvsOf (ks.take (i + 1)) (es.take (i + 1)) = kvsOf (ks.take i) (es.take i) ++ [(.inl n, y)] := by
  unfold kvsOf
  have a1 : i < ks.length := (List.getElem?_eq_some_iff.mp h1).1
  have a2 : i < es.length := (List.getElem?_eq_some_iff.mp h2).1
  rw [List.take_add_one, List.take_add_one, h1, h2, show (some n).toList = [n] from rfl, show (some y).toList = [y] from rfl, List.zip_append (by rw [List.length_take, List.length_take]; omega), List.map_append]
  rfl
/-- {k: e for ..}, keys that are numbers, each once -/
theorem e_dcW {wi : TI} {g : TG} {tk : TE} {vs : List Nat} {n : Nat} {xs : Nat → PyData} {ks : List Int} {es : List PyData} (hl : IW K wi ρ I n xs I) (hk : ks.length = n) (hn : es.length = n) (hz : n ≤ 100000) (nd : ks.Nodup)
    (he : ∀ i m y, i < n → ks[i]? = some m → es[i]? = some y → ∃ ρ', GW K g vs (xs i) (wipeR ρ vs) ρ' ∧ (∀ I', E K tk ρ' I' (.i m) I') ∧ ∀ I', E K te ρ' I' (.d y) I') : E K (tDc wi g tYes tk te vs) ρ I (.k (kvsOf ks es)) I := fun G H σ gh en io Q q =>
  hl G H σ gh en io _ fun Ji G1 H1 g1 gh1 j1 wk D hD => by
    have gD : G1 D = none := gh1.free hD
    have nD : ∀ a, I.foot a → ¬ a = D := fun a fa z => by
      obtain ⟨o, ho⟩ := I.own G1 H1 a j1 fa
      rw [z, hD] at ho
      cases ho
    have st0 := Stp.newM (o := HO.dK []) gh1 hD
    refine ⟨fun i m H' => m = n - i ∧ i ≤ n ∧ ∃ G', Same G1 G' ∧ Same G' H' ∧ I.ok G' H' ∧ (kA K D (kvsOf (ks.take i) (es.take i))).ok G' H' ∧ Stp (· = D) G1 (upd H1 D (.dK [])) G' H', ⟨n, rfl, Nat.zero_le _, G1, Same.refl _, st0.gh, Asn.pure_st st0 j1, ⟨gD, [], upd_same, rfl, .nil⟩, Stp.refl st0.gh⟩, fun i m H' hw => ?_⟩
    obtain ⟨rfl, hi, G', a1, a2, a3, a4, a5⟩ := hw
    by_cases c : i < n
    · have h1 : ks[i]? = some (ks[i]'(by omega)) := List.getElem?_eq_getElem (by omega)
      have h2 : es[i]? = some (es[i]'(by omega)) := List.getElem?_eq_getElem (by omega)
      obtain ⟨ρ', hg, hky, hel⟩ := he i _ _ c h1 h2
      refine .inr ⟨wk.go i G' H' c a1 a2, fun H2 => ∃ G2, Same G1 G2 ∧ Same G2 H2 ∧ I.ok G2 H2 ∧ (kA K D (kvsOf (ks.take (i + 1)) (es.take (i + 1)))).ok G2 H2 ∧ Stp (· = D) G1 (upd H1 D (.dK [])) G2 H2, fun H2 z => ⟨n - (i + 1), by omega, rfl, c, z⟩, fun v H2 y => ?_⟩
      obtain ⟨G2, st, dp⟩ := wk.yld i G' H' v H2 c a1 a2 y
      refine hg G2 H2 _ v _ st.gh (env_wipe (env_mono ((g1.trans a1).trans st.gg) en) vs) dp fun σ' en' hw => ⟨hw.trans (wipe_wipe σ vs), ?_⟩
      refine (show ∀ {F : Bool → Hp → Prop}, F true H2 → tYes σ' H2 F from fun h => h) ?_
      dsimp only
      rw [if_pos rfl]
      refine hky (((kA K D (kvsOf (ks.take i) (es.take i))).and I).and (Asn.since (· = D) G1 (upd H1 D (.dK [])))) G2 H2 _ st.gh en' ⟨⟨Asn.pure_st st a4, Asn.pure_st st a3⟩, a5.trans (st.wide fun _ z => z.elim)⟩ _ fun kv G3 H3 g3 gh3 j3 dk => ?_
      refine hel _ G3 H3 _ gh3 (env_mono g3 en') j3 _ fun y G4 H4 g4 gh4 j4 dy => ?_
      obtain rfl := dv_int dk
      obtain ⟨⟨⟨gq, ws, hq, r2⟩, i3⟩, st3⟩ := j4
      have hlen := kv_len r2
      have nk : (.inl (ks[i]'(by omega)) : Key) ∉ (kvsOf (ks.take i) (es.take i)).map (·.1) := by
        rw [kvs_keys (by rw [List.length_take, List.length_take]; omega)]
        intro z
        obtain ⟨m, hm, e⟩ := List.mem_map.mp z
        cases e
        obtain ⟨j, hj, e⟩ := List.mem_take_iff_getElem.mp hm
        have hji : j < i := by omega
        exact absurd ((List.getElem_inj (h₀ := by omega) (h₁ := by omega) nd).mp e) (by omega)
      have st4 := Stp.store (o := HO.dK (putK ws (.inl (ks[i]'(by omega))) y)) gh4 gq hq
      refine ⟨ws, .inl (ks[i]'(by omega)), rfl, hq, ?_, G4, ((a1.trans st.gg).trans g3).trans g4, st4.gh, I.st _ _ _ _ _ nD st4 i3, ⟨gq, _, upd_same, ?_⟩, st3.trans st4⟩
      · rw [hlen]
        unfold kvsOf
        rw [List.length_map, List.length_zip, List.length_take, List.length_take]
        exact Nat.lt_of_le_of_lt (Nat.le_trans (Nat.min_le_left _ _) (Nat.min_le_left _ _)) (Nat.lt_of_le_of_lt (show i ≤ 100000 by omega) (by rw [sizeLine_eq]; decide))
      · rw [kvs_snoc h1 h2]
        exact (kv_new r2 dy nk).1
    · have ei : i = n := by omega
      subst ei
      obtain ⟨gq, ws, hq, r2⟩ := a4
      have st : Stp (· = D) G' H' (upd G' D (.dK ws)) H' := Stp.frz a2 gq hq
      refine .inl ⟨wk.stop G' H' a1 a2, q _ (upd G' D (.dK ws)) H' ((g1.trans a1).trans st.gg) st.gh (I.st _ _ _ _ _ nD st a3) ⟨D, ws, rfl, upd_same, ?_⟩⟩
      rw [show ks = ks.take i by rw [List.take_of_length_le (by omega)], show es = es.take i by rw [List.take_of_length_le (by omega)]]
      exact kv_mono st.gg r2
/-! ### tuples -/
/-! ### loops over the items of a list of one's own -/
theorem s_loopR {α β : Type} {wi : TI} {g : TG} {bs : List β} {f : Nat → β → PyData} {xs : Nat → PyData} {n : Nat} (W : Nat → List β → α → Prop) (P : α → Rho) (V : α → Asn) (a0 : α) (w0 : W 0 bs a0) (hl : IW K wi ρ I n xs (V a0)) (hn : n = bs.length) (hx : ∀ i z, bs[i]? = some z → xs i = f i z) (h0 : ρ = P a0)
    (step : ∀ i z rest a, W i (z :: rest) a → ∃ ρ', GJ K g (f i z) (P a) ρ' ∧ ((∃ a', W (i + 1) rest a' ∧ S K ts ρ' (V a) (.nx (P a') (V a'))) ∨ (k.ret ∧ S K ts ρ' (V a) k)))
    (done : ∀ a i, W i [] a → S K us (P a) (V a) k) : S K (tSeq (tFor wi g ts) us) ρ I k := by
  subst hn
  refine s_loop (fun i a => W i (bs.drop i) a) P V a0 w0 hl h0 (fun i a hi w => ?_) fun a w => ?_
  · have e : bs.drop i = bs[i] :: bs.drop (i + 1) := List.drop_eq_getElem_cons hi
    rw [e] at w
    rw [hx i _ (List.getElem?_eq_getElem hi)]
    exact step i _ _ a w
  · rw [List.drop_of_length_le (Nat.le_refl _)] at w
    exact done a _ w
theorem s_loopR1 {α β : Type} {wi : TI} {g : TG} {bs : List β} {f : Nat → β → PyData} {xs : Nat → PyData} {n : Nat} (W : Nat → List β → α → Prop) (P : α → Rho) (V : α → Asn) (a0 : α) (w0 : W 0 bs a0) (hl : IW K wi ρ I n xs (V a0)) (hn : n = bs.length) (hx : ∀ i z, bs[i]? = some z → xs i = f i z) (h0 : ρ = P a0)
    (step : ∀ i z rest a, W i (z :: rest) a → ∃ ρ', GJ K g (f i z) (P a) ρ' ∧ ((∃ a', W (i + 1) rest a' ∧ S K ts ρ' (V a) (.nx (P a') (V a'))) ∨ (k.ret ∧ S K ts ρ' (V a) k)))
    (done : ∀ a i, W i [] a → S K tNext (P a) (V a) k) : S K (tFor wi g ts) ρ I k := fun G H σ D gh en io f => s_loopR (us := tNext) W P V a0 w0 hl hn hx h0 step done G H σ D gh en io f
theorem at0_map {β : Type} {f : β → PyData} {bs : List β} {i : Nat} {z : β} (h : bs[i]? = some z) : at0 (bs.map f) i = f z := by
  unfold at0
  rw [List.getD_eq_getElem?_getD, List.getElem?_map, h]
  rfl
theorem getElem?_of_map {β : Type} {f : β → PyData} {bs : List β} {i : Nat} {y : PyData} (h : (bs.map f)[i]? = some y) : ∃ z, bs[i]? = some z ∧ y = f z := by
  rw [List.getElem?_map, Option.map_eq_some_iff] at h
  obtain ⟨z, hz, rfl⟩ := h
  exact ⟨z, hz, rfl⟩
/-! ### loops whose next state is told by a wish alone -/
theorem s_ne {P : Rho → Asn → Prop} (h : S K ts ρ I (.nx ρ1 J)) (p : P ρ1 J) : S K ts ρ I (.ne P) := fun G H σ D gh en io f => h G H σ D gh en io fun G2 H2 σ2 a b c d => f ρ1 J p G2 H2 σ2 a b c d
theorem s_loopN {α : Type} {wi : TI} {g : TG} {n : Nat} {xs : Nat → PyData} (W : Nat → α → Prop) (P : α → Rho) (V : α → Asn) (a0 : α) (w0 : W 0 a0) (hl : IW K wi ρ I n xs (V a0)) (h0 : ρ = P a0)
    (step : ∀ i a, i < n → W i a → ∃ ρ', GJ K g (xs i) (P a) ρ' ∧ (S K ts ρ' (V a) (.ne fun r L => ∃ a', W (i + 1) a' ∧ r = P a' ∧ L = V a') ∨ (k.ret ∧ S K ts ρ' (V a) k)))
    (done : ∀ a, W n a → S K us (P a) (V a) k) : S K (tSeq (tFor wi g ts) us) ρ I k := fun G H σ D gh en io f => by
  show tFor wi g ts { D with nx := fun σ' H' => us D σ' H' } σ H
  refine hl G H σ gh en io _ fun Ji G1 H1 g1 gh1 j1 wk => ?_
  refine ⟨fun i m σ' H' => m = n - i ∧ i ≤ n ∧ ∃ a G', W i a ∧ Same G1 G' ∧ Same G' H' ∧ EnvD K G' σ' (P a) ∧ (V a).ok G' H', ⟨n, rfl, Nat.zero_le _, a0, G1, w0, Same.refl _, gh1, h0 ▸ env_mono g1 en, j1⟩, fun i m σ' H' hw => ?_⟩
  obtain ⟨rfl, hi, a, G', wa, a1, a2, a3, a4⟩ := hw
  by_cases c : i < n
  · obtain ⟨ρ', hg, hs⟩ := step i a c wa
    rcases hs with hs | ⟨hk, hs⟩
    · refine .inr ⟨wk.go i G' H' c a1 a2, fun σ2 H2 => ∃ a' G2, W (i + 1) a' ∧ Same G1 G2 ∧ Same G2 H2 ∧ EnvD K G2 σ2 (P a') ∧ (V a').ok G2 H2, fun σ2 H2 ⟨a', G2, wa', b1, b2, b3, b4⟩ => ⟨n - (i + 1), by omega, rfl, c, a', G2, wa', b1, b2, b3, b4⟩, fun v H2 y => ?_⟩
      obtain ⟨G2, st, dp⟩ := wk.yld i G' H' v H2 c a1 a2 y
      exact hg G2 H2 σ' v _ st.gh (env_mono st.gg a3) dp fun σ2 en2 => hs G2 H2 σ2 _ st.gh en2 (Asn.pure_st st a4) fun r L ⟨a', wa', e1, e2⟩ G3 H3 σ3 g3 gh3 en3 j3 => ⟨a', G3, wa', (a1.trans st.gg).trans g3, gh3, e1 ▸ en3, e2 ▸ j3⟩
    · refine .inr ⟨wk.go i G' H' c a1 a2, fun _ _ => False, fun _ _ z => z.elim, fun v H2 y => ?_⟩
      obtain ⟨G2, st, dp⟩ := wk.yld i G' H' v H2 c a1 a2 y
      exact hg G2 H2 σ' v _ st.gh (env_mono st.gg a3) dp fun σ2 en2 => hs G2 H2 σ2 _ st.gh en2 (Asn.pure_st st a4) (hk.other (D := D) rfl (((f.mono g1).mono a1).mono st.gg))
  · have e : i = n := by omega
    subst e
    exact .inl ⟨wk.stop G' H' a1 a2, done a wa G' H' σ' D a2 a3 a4 ((f.mono g1).mono a1)⟩
/-- d.get(n, y) -/
theorem e_kGetOr {kvs : List (Key × PyData)} {n : Int} {z : PyData} (ha : E K ta ρ I (.k kvs) J) (hb : E K tb ρ J (.i n) L) (hc : E K tc ρ L (.d y) N) (h : (valD kvs (.inl n)).getD y = z) : E K (tDGet2 ta tb tc) ρ I (.d z) N := fun G H σ gh en io Q q => ha G H σ gh en io _ fun v G1 H1 g1 gh1 j1 dv => by
  obtain ⟨a, vs, rfl, ha, kv⟩ := dv
  refine ⟨a, rfl, .inl ⟨vs, .of (gh1 _ _ ha)⟩, hb G1 H1 σ gh1 (env_mono g1 en) j1 _ fun w G2 H2 g2 gh2 j2 dw => hc G2 H2 σ gh2 (env_mono (g1.trans g2) en) j2 _ fun u G3 H3 g3 gh3 j3 du => ?_⟩
  obtain rfl := dv_int dw
  refine ⟨valV vs (.inl n), .inl ⟨vs, .inl n, .of (((g2.trans g3).trans gh3) _ _ ha), rfl, rfl⟩, ?_⟩
  obtain ⟨h1, h2⟩ := kv_get (ky := .inl n) kv
  cases e : valD kvs (.inl n) with
  | none =>
    rw [e] at h
    obtain rfl : y = z := h
    rw [h1 e]
    exact q u G3 H3 ((g1.trans g2).trans g3) gh3 j3 du
  | some x =>
    rw [e] at h
    obtain rfl : x = z := h
    obtain ⟨v, hv, dp⟩ := h2 x e
    rw [hv]
    exact q v G3 H3 ((g1.trans g2).trans g3) gh3 j3 (dp_mono (g2.trans g3) _ _ dp)
end
end PL
/-! walks over zip of two -/
namespace PL
open PySem PySem.Spec PyProof.Rows L2 FR GX PX RZ
variable [Nm]
section
variable {K : PySem.W.Frag} {ρ ρ1 : Rho} {I J L N : Asn} {tr : TA} {xs ys : List PyData}
theorem walk_zt {G : Hp} {a b : Addr} {vs ws : List V} (s1 : SqT K G a vs) (s2 : SqT K G b ws) (r1 : DpAll K G vs xs) (r2 : DpAll K G ws ys) (hl : xs.length = ys.length) : Walk K (ItzT K a b) xs.length (fun i => .tuple [at0 xs i, at0 ys i]) G := by
  have l1 := dpa_len r1
  have l2 := dpa_len r2
  refine ⟨fun i G2 H hi a1 a2 => ⟨vs, ws, vs[i]'(by omega), ws[i]'(by omega), same_t (a1.trans a2) s1, same_t (a1.trans a2) s2, List.getElem?_eq_getElem (by omega), List.getElem?_eq_getElem (by omega)⟩, fun G2 H a1 a2 => ⟨vs, ws, same_t (a1.trans a2) s1, same_t (a1.trans a2) s2, .inl (by omega)⟩, fun i G2 H v H' hi a1 a2 y => ?_⟩
  obtain ⟨q, x, y, rfl, nq, rfl, f1, f2⟩ := y
  obtain ⟨w1, h1, p1⟩ := dpa_get r1 (at0_get hi)
  obtain ⟨w2, h2, p2⟩ := dpa_get r2 (at0_get (show i < ys.length by omega))
  obtain rfl : x = w1 := Option.some.inj ((f1 vs (same_t (a1.trans a2) s1)).symm.trans h1)
  obtain rfl : y = w2 := Option.some.inj ((f2 ws (same_t (a1.trans a2) s2)).symm.trans h2)
  have st := Stp.new (o := .tup [x, y]) a2 nq
  have c1 := a1.trans st.gg
  exact ⟨_, st, .tup (.inl (.inl upd_same)) (.cons (dp_mono c1 _ _ p1) (.cons (dp_mono c1 _ _ p2) .nil))⟩
theorem iw_zt (h : A K tr ρ I [.t xs, .t ys] J) (hl : xs.length = ys.length) : IW K (iZipA K tr) ρ I xs.length (fun i => .tuple [at0 xs i, at0 ys i]) J := fun G H σ gh en io R r => h G H σ gh en io _ fun vs G1 H1 g1 gh1 j1 dvs => by
  match vs, dvs with
  | [v1, v2], ⟨d1, d2, _⟩ =>
    cases d1 with
    | tup s1 r1 =>
      cases d2 with
      | tup s2 r2 => exact ⟨_, _, _, _, rfl, .inr ⟨same_t gh1 s1, same_t gh1 s2, r _ G1 H1 g1 gh1 j1 (walk_zt s1 s2 r1 r2 hl)⟩⟩
end
end PL
set_option maxHeartbeats 1000000
/-! name = {k: e for ..} -/
namespace PX
open PySem PySem.Spec PyProof.Rows L2
section
variable {X : Cx} {i : Nat} {y : Str} {py : Pos} {kx vx tg iter : Expr} {ifs : List Expr} {scope : Scope} {own : List (Str × Nat)} {pos spos : Pos} {wi : TI} {g : TG} {tt : TT} {tk tv : TE}
theorem sw_trueD {gs : List Comprehension} {l : Nat} {env : Env} (hk : env.scope.kind = .function) (hy : env.scope.names.lookup y = some .local) (hl : (py.line == pos.line) = true) (ha : (scope.names.any fun (n, k) => n == y && (k == .local || k == .cell)) = false) :
    swapsWith (.DictComp kx vx gs scope pos) (some (.Name y py)) l env = pure true := by
  have a1 : env.kindOf y = some .local := hy
  have a2 : env.blockKind = .function := by
    unfold Env.blockKind
    rw [hk]
    rfl
  unfold swapsWith
  simp only [a2, a1, ha, Expr.pos, hl]
  rfl
theorem ps_setDc (hc : X.calm = true) (nd : X.N.Nodup) (at_ : X.N[i]? = some y) (loc : X.env.scope.names.lookup y = some .local) (sw : swapsWith (.DictComp kx vx [⟨tg, iter, ifs, 0⟩] scope pos) (some (.Name y py)) spos.line X.env = pure true) (hi : PI X tg iter wi) (ok : BlkOk X.N X.env.scope scope own)
    (tgt : ∀ (s : Shared) (H : Hp) (C : Addr) (cl : List (Str × Addr)) (fp : List Addr), PG (X.blk s H scope (compEnvC scope cl C X.env) fp) tg g) (tst : ∀ (s : Shared) (H : Hp) (C : Addr) (cl : List (Str × Addr)) (fp : List Addr), PTs (X.blk s H scope (compEnvC scope cl C X.env) fp) ifs tt)
    (key : ∀ (s : Shared) (H : Hp) (C : Addr) (cl : List (Str × Addr)) (fp : List Addr), PE (X.blk s H scope (compEnvC scope cl C X.env) fp) kx tk) (val : ∀ (s : Shared) (H : Hp) (C : Addr) (cl : List (Str × Addr)) (fp : List Addr), PE (X.blk s H scope (compEnvC scope cl C X.env) fp) vx tv)
    (hs : ∀ x, foldedSetIterable iter X.env x = pure x := by intro _; rfl) : PS X (.Assign [.Name y py] (.DictComp kx vx [⟨tg, iter, ifs, 0⟩] scope pos) spos) (tAsg (tDc wi g tt tk tv (own.map (·.2))) (gName i)) := by
  refine ⟨fun pins s σ H D I w => ?_⟩
  rw [exec_Assign_Name_used _ _ _ _ sw]
  refine wpAny_bind (wpAny_standAt (wpAny_bind ?_))
  show wpAny _ X.A (comprehension (.DictComp kx vx [⟨tg, iter, ifs, 0⟩] scope pos) scope X.env (firstIterPos [⟨tg, iter, ifs, 0⟩] pos) newDict false (eval iter X.env) (some (assign (.Name y py) X.env)) >>= _) _ _ s
  have w : tDc wi g tt tk tv (own.map (·.2)) σ H (fun x H1 => gName i x σ H1 D.nx) := w
  refine wpAny_bind (thn (dc_core (Qf := fun _ s' => SP X pins D .next s') hc nd I hi ok tgt tst key val hs w fun L C s' m H' J q hn f => ?_) fun _ s' hq => wpAny_pure (wpAny_pure hq))
  show wpAny _ _ (assign (.Name y py) X.env (.ref L)) _ _ _
  refine wpAny_assign_Name (store_ok2 (v := V.ref L) J nd at_ (.inl loc) rfl (fun s2 J2 ⟨a, sb, ha⟩ => ?_) (.inr loc))
  obtain ⟨f0, f1, f2, f3, f4, f5⟩ := f
  have ne : C ≠ a := ha.elim (fun z => by rw [z]; exact f1) fun z e => f4 y a z e.symm
  refine ⟨m, hn.sameBut sb ne, fun h3 sb3 => ⟨_, H', J2.turned (t' := s2.toks) (fun b o hb e => (sb3.2 b hb).trans e) f0 f1 f3 f4 f5, q⟩⟩
end
end PX
/-! Fractions whose denominators divide a number and whose values are bounded. Plain Lean. -/
namespace FR
/-- D times the value is an integer, the value lies from -B to B -/
structure Sm (D B : Nat) (a : F) : Prop where
  nrm : Nrm a
  int : ∃ z : Int, vl a * (D : Int) = z
  lo : -(B : Int) ≤ vl a
  hi : vl a ≤ (B : Int)
theorem den_dvd {a : F} {D z : Int} (h : Nrm a) (e : vl a * D = z) : a.2 ∣ D := by
  have p := cpos h.1
  have p' : (a.2 : Rat) ≠ 0 := by grind
  have e2 : ((a.1 * D : Int) : Rat) = ((z * a.2 : Int) : Rat) := by
    rw [Rat.intCast_mul, Rat.intCast_mul, ← e]
    unfold vl
    grind
  have e3 : a.1 * D = z * a.2 := Rat.intCast_inj.mp e2
  have d : a.2 ∣ a.1 * D := ⟨z, by rw [e3, Int.mul_comm]⟩
  have d2 := Int.natAbs_dvd_natAbs.mpr d
  rw [Int.natAbs_mul] at d2
  have c : Nat.Coprime a.2.natAbs a.1.natAbs := by
    have := h.2
    unfold Int.gcd at this
    rw [Nat.gcd_comm] at this
    exact this
  exact Int.natAbs_dvd_natAbs.mp (c.dvd_of_dvd_mul_left d2)
theorem Sm.dvd {D B : Nat} {a : F} (h : Sm D B a) : a.2 ∣ (D : Int) := by
  obtain ⟨z, e⟩ := h.int
  exact den_dvd h.nrm e
theorem num_le {a : F} {B : Nat} (h : Nrm a) (l : -(B : Int) ≤ vl a) (u : vl a ≤ (B : Int)) : a.1.natAbs ≤ B * a.2.natAbs := by
  have p := cpos h.1
  have e : (a.1 : Rat) = vl a * a.2 := by
    unfold vl
    grind
  have u1 : ((a.1 : Int) : Rat) ≤ (((B : Int) * a.2 : Int) : Rat) := by
    rw [Rat.intCast_mul, e]
    exact Rat.mul_le_mul_of_nonneg_right u (by grind)
  have l1 : ((-((B : Int) * a.2) : Int) : Rat) ≤ ((a.1 : Int) : Rat) := by
    rw [Rat.intCast_neg, Rat.intCast_mul, e]
    have := Rat.mul_le_mul_of_nonneg_right (c := (a.2 : Rat)) l (by grind)
    grind
  have u2 := Rat.intCast_le_intCast.mp u1
  have l2 := Rat.intCast_le_intCast.mp l1
  have z : ((B * a.2.natAbs : Nat) : Int) = (B : Int) * a.2 := by
    rw [Int.natCast_mul]
    congr 1
    have := h.1
    omega
  omega
theorem Sm.sz {D B k : Nat} {a : F} (h : Sm D B a) (hD : 0 < D) (hk : D < 2 ^ k) (hb : B * D < 2 ^ k) : Sz k a := by
  have d := Int.natAbs_dvd_natAbs.mpr h.dvd
  rw [Int.natAbs_natCast] at d
  have le := Nat.le_of_dvd hD d
  have n := num_le h.nrm h.lo h.hi
  exact ⟨Nat.lt_of_le_of_lt (Nat.le_trans n (Nat.mul_le_mul_left B le)) hb, Nat.lt_of_le_of_lt le hk⟩
theorem Sm.mono {D B E C : Nat} {a : F} (h : Sm D B a) (hd : D ∣ E) (hb : B ≤ C) : Sm E C a := by
  obtain ⟨k, rfl⟩ := hd
  obtain ⟨z, e⟩ := h.int
  have c : ((B : Int) : Rat) ≤ ((C : Int) : Rat) := Rat.intCast_le_intCast.mpr (by omega)
  have l := h.lo
  have u := h.hi
  refine ⟨h.nrm, ⟨z * k, ?_⟩, by grind, by grind⟩
  rw [Rat.intCast_mul, ← e, Int.natCast_mul, Rat.intCast_mul]
  grind
theorem Sm.up {D B C : Nat} {a : F} (h : Sm D B a) (hb : B ≤ C) : Sm D C a := h.mono (Nat.dvd_refl D) hb
theorem Sm.plus {D A B : Nat} {a b : F} (ha : Sm D A a) (hb : Sm D B b) : Sm D (A + B) (plusM a b) := by
  obtain ⟨x, e⟩ := ha.int
  obtain ⟨y, f⟩ := hb.int
  have l1 := ha.lo
  have u1 := ha.hi
  have l2 := hb.lo
  have u2 := hb.hi
  have v := vl_plus ha.nrm hb.nrm
  have c : (((A + B : Nat) : Int) : Rat) = ((A : Int) : Rat) + ((B : Int) : Rat) := by rw [Int.natCast_add, Rat.intCast_add]
  refine ⟨plus_nrm ha.nrm hb.nrm, ⟨x + y, ?_⟩, ?_, ?_⟩
  · rw [v, Rat.intCast_add, ← e, ← f]
    grind
  · rw [v, c]; grind
  · rw [v, c]; grind
/-- told by its value -/
theorem Sm.of {D B : Nat} {a b : F} (h : Sm D B a) (hb : Nrm b) (e : vl b = vl a) : Sm D B b := by
  rw [vl_inj hb h.nrm e]
  exact h
theorem Sm.lf {D B : Nat} {x y : Int} (hy : 0 < y) (hd : y ∣ (D : Int)) (hb : x.natAbs ≤ B * y.natAbs) : Sm D B (lf x y) := by
  have v := vl_lf (n := x) (d := y) (by omega)
  have p := cpos hy
  have p' : (y : Rat) ≠ 0 := by grind
  obtain ⟨k, ek⟩ := hd
  refine ⟨lf_nrm (by omega), ⟨x * k, ?_⟩, ?_, ?_⟩
  · rw [v, ek, Rat.intCast_mul, Rat.intCast_mul]
    grind
  · rw [v]
    have z : ((-((B : Int) * y) : Int) : Rat) ≤ ((x : Int) : Rat) := Rat.intCast_le_intCast.mpr (by
      have : ((B * y.natAbs : Nat) : Int) = (B : Int) * y := by
        rw [Int.natCast_mul]
        congr 1
        omega
      omega)
    rw [Rat.intCast_neg, Rat.intCast_mul] at z
    refine (le_div_pos p).mpr ?_
    grind
  · rw [v]
    have z : ((x : Int) : Rat) ≤ (((B : Int) * y : Int) : Rat) := Rat.intCast_le_intCast.mpr (by
      have : ((B * y.natAbs : Nat) : Int) = (B : Int) * y := by
        rw [Int.natCast_mul]
        congr 1
        omega
      omega)
    rw [Rat.intCast_mul] at z
    refine (div_le_pos p).mpr ?_
    grind
end FR
set_option exponentiation.threshold 20000
/-! rules of the hand layer: lcm, tuple(list) as it stands, dict of a tuple of pairs, sorted of tuples of data -/
namespace L2
open PySem PySem.Spec PyProof.Rows
section
variable {X : Cx}
/-! ### lcm -/
def rLcm : List V → Hp → VK → Prop := fun vs H Q => ∃ a b : Int, vs = [.int a, .int b] ∧ a.natAbs < 2 ^ 9000 ∧ b.natAbs < 2 ^ 9000 ∧ Q (.int ((Nat.lcm a.natAbs b.natAbs : Nat) : Int)) H
theorem lcm_lt {a b n : Nat} (ha : a < 2 ^ n) (hb : b < 2 ^ n) : Nat.lcm a b < 2 ^ (n + n) := by
  refine Nat.lt_of_le_of_lt (m := a * b) ?_ (by rw [Nat.pow_add]; exact Nat.mul_lt_mul'' ha hb)
  by_cases h : a * b = 0
  · rcases Nat.mul_eq_zero.mp h with rfl | rfl
    · rw [Nat.lcm_zero_left]; exact Nat.zero_le _
    · rw [Nat.lcm_zero_right]; exact Nat.zero_le _
  · exact Nat.le_of_dvd (Nat.pos_of_ne_zero h) (Nat.lcm_dvd_mul a b)
theorem cr_lcm : CallR X (.builtin "math.lcm") rLcm := by
  intro pins s σ H vs us Q I r h
  obtain ⟨a, b, rfl, ha, hb, q⟩ := h
  obtain ⟨t, u, rfl⟩ := Vals.int2 r
  have l1 : (max 1 a.natAbs).log2 ≤ 8999 := PySem.W.mg_log (by
    have : (1 : Nat) < 2 ^ 9000 := Nat.lt_of_lt_of_le (show 1 < 2 ^ 1 by decide) (Nat.pow_le_pow_right (by decide) (by decide))
    show max 1 a.natAbs < 2 ^ 9000
    omega)
  have l2 : (max a.natAbs b.natAbs).log2 ≤ 8999 := PySem.W.mg_log (by show max a.natAbs b.natAbs < 2 ^ 9000; omega)
  have l3 : ((((Nat.lcm 1 a.natAbs).lcm b.natAbs : Nat) : Int)).natAbs.log2 < bitsLine := by
    rw [Nat.lcm_one_left, Int.natAbs_natCast]
    have h1 : (Nat.lcm a.natAbs b.natAbs).log2 ≤ 17999 := PySem.W.mg_log (lcm_lt ha hb)
    rw [bitsLine_eq]
    omega
  have g := PySem.W.mg_run_lcm a t b u (by omega) (by omega) l3
  rw [Nat.lcm_one_left] at g
  exact call_function_meets PySem.W.MGF.kind_lcm PySem.W.MGF.plain_lcm PySem.W.MGF.entry_lcm (PySem.W.MGF.args_lcm _ _) g.meets ⟨.int _, H, I.tok _, ⟨_, rfl⟩, q⟩
/-! ### tuple(xs) of a list, as it stands -/
/-! ### dict(xs) of a tuple of pairs -/
theorem pairs_both {pins : List (Addr × Obj)} {σ : St} {H : Hp} {s : Shared} (I : Inv X pins σ H s) : ∀ {ps : List Addr} {kvs : List (Key × V)}, Paired (fun p kv => SqT X.K H p [kV kv.1, kv.2]) ps kvs →
    ∃ (prs : List (Key × Value)) (uv : List (Value × Value)), KV kvs prs ∧ prs.length = ps.length ∧ uv.length = ps.length ∧ (∀ (j : Nat) (k v : Value), uv[j]? = some (k, v) → (∃ b, ps[j]? = some b ∧ IsTup s.heap b #[k, v]) ∧ ∃ q, prs[j]? = some (q, v) ∧ keyIs q k = true)
  | _, _, .nil => ⟨[], [], .nil, rfl, rfl, fun j k v e => by simp at e⟩
  | _, _, .cons (a := p) (b := kv) h t => by
    obtain ⟨prs, uv, rk, l1, l2, all⟩ := pairs_both I t
    obtain ⟨its, rr, ht, _⟩ := I.tuple h
    obtain ⟨u, y, rfl, ru, ry⟩ := vals2 rr
    refine ⟨(kv.1, y) :: prs, (u, y) :: uv, .cons ⟨rfl, ry⟩ rk, congrArg Nat.succ l1, congrArg Nat.succ l2, fun j k v e => ?_⟩
    cases j with
    | zero =>
      obtain ⟨rfl, rfl⟩ := Prod.mk.inj (Option.some.inj e)
      exact ⟨⟨p, rfl, ht⟩, _, rfl, kV_is (P := X.prog) (w := X.w) ru⟩
    | succ j =>
      obtain ⟨⟨b, e1, e2⟩, e3⟩ := all j k v (by simpa using e)
      exact ⟨⟨b, by simpa using e1, e2⟩, by simpa using e3⟩
def rDictU (K : PySem.W.Frag) : List V → Hp → VK → Prop := fun xs H Q => ∃ (a : Addr) (o : Obj) (ps : List Addr) (kvs : List (Key × V)), xs = [.ref a] ∧ H a = some (.frz o (.tup (ps.map V.ref))) ∧ o.dict = none ∧ Paired (fun p kv => SqT K H p [kV kv.1, kv.2]) ps kvs ∧ ∀ p, H p = none → Q (.ref p) (upd H p (.dK (mergeK [] kvs)))
theorem cr_dictU (hc : X.calm = true) : CallR X (.type "dict") (rDictU X.K) := by
  intro pins s σ H xs us Q I r h
  obtain ⟨a, o, ps, kvs, rfl, ha, hd, hp, q⟩ := h
  obtain ⟨u, rfl, rx⟩ := vals1 r
  cases rx
  obtain ⟨hg, hz, its, rr, hT⟩ := (show ObjOk X.prog X.w H s.heap a (.frz o (.tup (ps.map V.ref))) from I.hok a _ ha)
  obtain rfl := refs_at rr
  obtain ⟨o2, hg2, hcl, n, hdat⟩ := hT
  rw [hg] at hg2
  obtain rfl := Option.some.inj hg2
  obtain ⟨prs, uv, rk, l1, l2, all⟩ := pairs_both I hp
  rw [List.length_map] at hz
  refine PySem.call_dict_pairs (knd := mixKind X.prog X.w) (kvs := prs) (PySem.PairArg.tuple a (ps.map Value.ref).toArray (fun j => ps.getD j 0) uv) (I.ok.hd hc) ⟨⟨o, n, hg, hcl, hd, hdat⟩, by simp [l2], fun j k v e => ?_⟩ ⟨by omega, fun j k v e => ?_⟩ (by omega) fun hp2 tk hD hk => ?_
  · obtain ⟨⟨b, e1, e2⟩, _⟩ := all j k v e
    have e3 : ps.getD j 0 = b := by rw [List.getD_eq_getElem?_getD, e1]; rfl
    dsimp only
    rw [e3]
    exact ⟨by simp [e1], .inl e2⟩
  · obtain ⟨_, w, e1, e2⟩ := all j k v e
    exact ⟨w, e1, e2⟩
  · have hm : (s.heap.objs.size == sysModules) = false := beq_eq_false_iff_ne.mpr (Nat.ne_of_gt I.big)
    have hlen : (mergeK [] kvs).length ≤ sizeLine := by
      have h1 := length_mergeK kvs []
      have h2 := rk.length
      rw [List.length_nil] at h1
      omega
    exact ⟨.ref s.heap.objs.size, _, I.laid (t' := tk) (fun b u e => hk b u (by simp) e) (Nat.le_refl _) (show ObjOk X.prog X.w _ _ _ (.dK (mergeK [] kvs)) from ⟨hlen, hm, merged [] prs, KV.merge rk .nil, hD⟩), rfl, q _ (I.hok.fresh (Nat.le_refl _))⟩
end
end L2
/-! ### sorted(xs), xs a list of tuples of data, told by a key of three ints -/
namespace SrtD
open PySem PySem.Spec PyProof.Rows SrtO Srt
/-- how two rows are told apart: by ints, or not at all -/
def lexL : List PyData → List PyData → Option Bool
  | [], [] => some false
  | x :: xs, y :: ys => if PyData.eqv x y = true then lexL xs ys else match x, y with
    | .int a, .int b => some (decide (a < b))
    | _, _ => none
  | _, _ => none
end SrtD
/-! ### rows: tuples that begin with three ints -/
namespace SrtD
open PySem PySem.Spec PyProof.Rows SrtO Srt
def Row3 (d : PyData) : Prop := ∃ (a b c : Int) (r : List PyData), d = .tuple (.int a :: .int b :: .int c :: r) ∧ ∀ x ∈ r, SeqAt.shaped x = true
theorem lexL_self : ∀ (r : List PyData), (∀ x ∈ r, SeqAt.shaped x = true) → lexL r r = some false
  | [], _ => rfl
  | x :: r, h => by
    unfold lexL
    rw [if_pos (SeqAt.eqv_refl x (SeqAt.canLay_of_shaped (h x List.mem_cons_self)))]
    exact lexL_self r fun y hy => h y (List.mem_cons_of_mem _ hy)
theorem eqv_ints {a b : Int} : (PyData.eqv (.int a) (.int b) = true) = (a = b) := by
  simp [PyData.eqv]
def IsRow (h : Heap) (v : Value) (d : PyData) : Prop := Row3 d ∧ ∃ as, Reads h v d as
theorem IsRow.keeps {h h' : Heap} {v : Value} {d : PyData} (p : IsRow h v d) (hk : ∀ b o, h.get? b = some o → h'.get? b = some o) : IsRow h' v d := ⟨p.1, p.2.imp fun _ r => PyProof.Rows.Reads.keeps hk r⟩
end SrtD
namespace L2
open PySem PySem.Spec PyProof.Rows SrtD
section
variable {X : Cx}
theorem dpa_at {K : PySem.W.Frag} {H : Hp} {f : Value → PyData} : ∀ {us : List Value}, DpAll K H (us.map backV) (us.map f) → ∀ u ∈ us, Dp K H (backV u) (f u)
  | [], _ => fun u hu => absurd hu (by simp)
  | v :: us, .cons a b => fun u hu => by
    rcases List.mem_cons.mp hu with rfl | hu
    · exact a
    · exact dpa_at b u hu
end
end L2
set_option exponentiation.threshold 20000
/-! data rules: lcm, plain tuples, dict of a plain tuple of pairs, sorted rows -/
namespace PL
open PySem PySem.Spec PyProof.Rows L2
variable [Nm]
section
variable {K : PySem.W.Frag} {ρ : Rho} {I J L : Asn} {te : TE} {tr : TA}
theorem e_lcm {i j : Int} (hr : A K tr ρ I [.i i, .i j] J) (hi : i.natAbs < 2 ^ 9000) (hj : j.natAbs < 2 ^ 9000) : E K (tCB rLcm tr) ρ I (.i ((Nat.lcm i.natAbs j.natAbs : Nat) : Int)) J :=
  e_cb hr fun G H vs gh jo h Q q => by
    obtain ⟨v, w, rfl, h1, h2⟩ := dva2 h
    obtain rfl := dv_int h1
    obtain rfl := dv_int h2
    exact ⟨i, j, rfl, hi, hj, q _ G H (Same.refl _) gh jo (.int _)⟩
theorem u2t {G : Hp} {v : V} {xs : List PyData} (h : Dv K G v (.u xs)) : Dv K G v (.t xs) := by
  obtain ⟨a, o, vs, rfl, h2, _, h4⟩ := h
  exact .tup (.inl (.inr ⟨o, h2⟩)) h4
theorem e_u2t {xs : List PyData} (h : E K te ρ I (.u xs) J) : E K te ρ I (.t xs) J := fun G H σ gh en io Q q => h G H σ gh en io Q fun v G1 H1 g1 gh1 j1 dv => q v G1 H1 g1 gh1 j1 (u2t dv)
abbrev prV (z : Int × PyData) : PyData := .tuple [.int z.1, z.2]
abbrev prK (z : Int × PyData) : Key × PyData := (.inl z.1, z.2)
theorem prs_of {G : Hp} : ∀ {kps : List (Int × PyData)} {vs : List V}, DpAll K G vs (kps.map prV) → ∃ (ps : List Addr) (kvs : List (Key × V)), vs = ps.map V.ref ∧ Paired (fun p kv => SqT K G p [kV kv.1, kv.2]) ps kvs ∧ kvs.map (·.1) = kps.map (fun z => Sum.inl z.1) ∧ DpAll K G (kvs.map (·.2)) (kps.map (·.2))
  | [], _, h => by
    cases h
    exact ⟨[], [], rfl, .nil, rfl, .nil⟩
  | (n, x) :: kps, _, h => by
    cases h with
    | cons h1 h2 =>
      obtain ⟨ps, kvs, e1, e2, e3, e4⟩ := prs_of h2
      cases h1 with
      | tup s r =>
        cases r with
        | cons r1 r2 =>
          cases r1
          cases r2 with
          | cons r3 r4 =>
            cases r4
            rename_i p v
            refine ⟨p :: ps, (.inl n, v) :: kvs, by rw [e1]; rfl, .cons (s) e2, by rw [List.map_cons, List.map_cons, e3], .cons r3 e4⟩
theorem mergeK_app : ∀ {more kvs : List (Key × V)}, (more.map (·.1)).Nodup → (∀ k ∈ more.map (·.1), k ∉ kvs.map (·.1)) → mergeK kvs more = kvs ++ more
  | [], _, _, _ => by simp [mergeK]
  | (k, v) :: more, kvs, nd, h => by
    rw [List.map_cons, List.nodup_cons] at nd
    have e : putK kvs k v = kvs ++ [(k, v)] := by
      unfold putK
      rw [if_neg]
      rw [List.any_eq_true]
      rintro ⟨z, hz, e⟩
      exact h k List.mem_cons_self (List.mem_map.mpr ⟨z, hz, of_decide_eq_true e⟩)
    show mergeK (putK kvs k v) more = _
    rw [e, mergeK_app nd.2, List.append_assoc]
    · rfl
    · intro k' hk' hm
      rw [List.map_append, List.mem_append] at hm
      rcases hm with hm | hm
      · exact h k' (List.mem_cons_of_mem _ hk') hm
      · simp only [List.map_cons, List.map_nil, List.mem_singleton] at hm
        subst hm
        exact nd.1 hk'
theorem e_dictU {kps : List (Int × PyData)} (hr : A K tr ρ I [.u (kps.map prV)] J) (nd : (kps.map (·.1)).Nodup) : E K (tCB (rDictU K) tr) ρ I (.k (kps.map prK)) J :=
  e_cb hr fun G H vs gh jo h Q q => by
    obtain ⟨v, rfl, a, o, vs, rfl, h2, h3, h4⟩ := dva1 h
    obtain ⟨ps, kvs, rfl, e2, e3, e4⟩ := prs_of h4
    have nd2 : (kvs.map (·.1)).Nodup := by
      rw [e3, show (fun z : Int × PyData => (Sum.inl z.1 : Key)) = (fun n => (Sum.inl n : Key)) ∘ (fun z => z.1) from rfl, ← List.map_map]
      exact List.Pairwise.map _ (fun _ _ hne z => hne (by injection z)) nd
    have em : mergeK [] kvs = kvs := by
      rw [mergeK_app nd2 (fun _ _ z => by simp at z)]
      rfl
    refine ⟨a, o, ps, kvs, rfl, gh _ _ h2, h3, ?_, fun p hp => ?_⟩
    · have : ∀ {ps : List Addr} {kvs : List (Key × V)}, Paired (fun p kv => SqT K G p [kV kv.1, kv.2]) ps kvs → Paired (fun p kv => SqT K H p [kV kv.1, kv.2]) ps kvs := by
        intro ps kvs h
        induction h with
        | nil => exact .nil
        | cons a _ ih => exact .cons (same_t gh a) ih
      exact this e2
    · rw [em]
      have st := Stp.new (o := .dK kvs) gh hp
      refine q _ _ _ st.gg st.gh (Asn.pure_st st jo) ⟨p, kvs, rfl, upd_same, ?_, ?_⟩
      · rw [e3, List.map_map]
        rfl
      · rw [List.map_map]
        exact dp_monos st.gg _ _ e4
end
end PL
/-! comprehensions of two clauses, and of one with a test, over any walk -/
namespace PL
open PySem PySem.Spec PyProof.Rows L2
variable [Nm]
section
variable {K : PySem.W.Frag} {ρ : Rho} {I J L : Asn} {te : TE} {tr : TA}
/-- the kept items of a row, up to j -/
def rowK (b : Nat → Bool) (e : Nat → PyData) (j : Nat) : List PyData := ((List.range j).filter b).map e
theorem rowK_0 {b : Nat → Bool} {e : Nat → PyData} : rowK b e 0 = [] := rfl
theorem rowK_s {b : Nat → Bool} {e : Nat → PyData} {j : Nat} : rowK b e (j + 1) = rowK b e j ++ (if b j = true then [e j] else []) := by
  unfold rowK
  rw [List.range_succ, List.filter_append, List.map_append]
  congr 1
  by_cases h : b j = true
  · rw [if_pos h, List.filter_cons_of_pos h]
    rfl
  · rw [if_neg h, List.filter_cons_of_neg h]
    rfl
theorem rowK_len {b : Nat → Bool} {e : Nat → PyData} (j : Nat) : (rowK b e j).length ≤ j := by
  unfold rowK
  rw [List.length_map]
  exact Nat.le_trans (List.length_filter_le _ _) (by rw [List.length_range]; exact Nat.le_refl _)
def rowsK (m : Nat → Nat) (b : Nat → Nat → Bool) (e : Nat → Nat → PyData) (i : Nat) : List PyData := ((List.range i).map fun i => rowK (b i) (e i) (m i)).flatten
theorem rowsK_s {m : Nat → Nat} {b : Nat → Nat → Bool} {e : Nat → Nat → PyData} {i : Nat} : rowsK m b e (i + 1) = rowsK m b e i ++ rowK (b i) (e i) (m i) := by
  unfold rowsK
  rw [List.range_succ, List.map_append, List.flatten_append]
  simp
theorem rowsK_len {m : Nat → Nat} {b : Nat → Nat → Bool} {e : Nat → Nat → PyData} {n : Nat} (hm : ∀ i, i < n → m i ≤ 1000) : ∀ i, i ≤ n → (rowsK m b e i).length ≤ i * 1000
  | 0, _ => Nat.le_refl _
  | i + 1, h => by
    rw [rowsK_s, List.length_append]
    have h1 := rowsK_len (b := b) (e := e) hm i (by omega)
    have h2 := rowK_len (b := b i) (e := e i) (m i)
    have h3 := hm i h
    omega
theorem e_lc2W {wi wi1 : TI} {g g1 : TG} {tt1 : TT} {vs vs1 : List Nat} {n : Nat} {xs : Nat → PyData} {m : Nat → Nat} {ys : Nat → Nat → PyData} {b : Nat → Nat → Bool} {e : Nat → Nat → PyData} (hl : IW K wi ρ I n xs I) (hn : n ≤ 1000) (hm : ∀ i, i < n → m i ≤ 1000)
    (he : ∀ i, i < n → ∃ ρ1, GW K g vs (xs i) (wipeR ρ vs) ρ1 ∧ (∀ I', IW K wi1 ρ1 I' (m i) (ys i) I') ∧ ∀ j, j < m i → ∃ ρ2, GW K g1 vs1 (ys i j) (wipeR ρ1 vs1) ρ2 ∧ (∀ I', T K tt1 ρ2 I' (b i j) I') ∧ (b i j = true → ∀ I', E K te ρ2 I' (.d (e i j)) I')) :
    E K (tLc2 wi g tYes wi1 g1 tt1 te vs vs1) ρ I (.d (.list (rowsK m b e n))) I := fun G H σ gh en io Q q =>
  hl G H σ gh en io _ fun Ji G1 H1 g1' gh1 j1 wk D hD => by
    have gD : G1 D = none := gh1.free hD
    have nD : ∀ a, I.foot a → ¬ a = D := fun a fa z => by
      obtain ⟨o, ho⟩ := I.own G1 H1 a j1 fa
      rw [z, hD] at ho
      cases ho
    have st0 := Stp.newM (o := HO.lst []) gh1 hD
    have big : ∀ {i j : Nat} (hi : i < n), j ≤ m i → (rowsK m b e i ++ rowK (b i) (e i) j).length < sizeLine := fun {i j} hi hj => by
      rw [List.length_append]
      have h1 := rowsK_len (b := b) (e := e) hm i (by omega)
      have h2 := rowK_len (b := b i) (e := e i) j
      have h3 := hm i hi
      have : i * 1000 ≤ 1000 * 1000 := Nat.mul_le_mul_right _ (by omega)
      rw [sizeLine_eq]
      omega
    refine ⟨fun i k H' => k = n - i ∧ i ≤ n ∧ ∃ G', Same G1 G' ∧ Same G' H' ∧ I.ok G' H' ∧ (lA K D (rowsK m b e i)).ok G' H' ∧ Stp (· = D) G1 (upd H1 D (.lst [])) G' H', ⟨n, rfl, Nat.zero_le _, G1, Same.refl _, st0.gh, Asn.pure_st st0 j1, ⟨gD, [], upd_same, .nil⟩, Stp.refl st0.gh⟩, fun i k H' hw => ?_⟩
    obtain ⟨rfl, hi, G', a1, a2, a3, a4, a5⟩ := hw
    by_cases c : i < n
    · obtain ⟨ρ1, hg, hi1, hin⟩ := he i c
      refine .inr ⟨wk.go i G' H' c a1 a2, fun H2 => ∃ G2, Same G1 G2 ∧ Same G2 H2 ∧ I.ok G2 H2 ∧ (lA K D (rowsK m b e (i + 1))).ok G2 H2 ∧ Stp (· = D) G1 (upd H1 D (.lst [])) G2 H2, fun H2 z => ⟨n - (i + 1), by omega, rfl, c, z⟩, fun v H2 y => ?_⟩
      obtain ⟨G2, st, dp⟩ := wk.yld i G' H' v H2 c a1 a2 y
      refine hg G2 H2 _ v _ st.gh (env_wipe (env_mono ((g1'.trans a1).trans st.gg) en) vs) dp fun σ' en' hw => ⟨hw.trans (wipe_wipe σ vs), ?_⟩
      -- the inner loop
      have b4 := Asn.pure_st st a4
      have b3 := Asn.pure_st st a3
      have b5 := a5.trans (st.wide fun _ z => z.elim)
      have bb : Same G1 G2 := a1.trans st.gg
      refine hi1 (((lA K D (rowsK m b e i)).and I).and (Asn.since (· = D) G1 (upd H1 D (.lst [])))) G2 H2 σ' st.gh en' ⟨⟨b4, b3⟩, b5⟩ _ fun J1 G4 H4 g4 gh4 j4 wk1 => ?_
      obtain ⟨⟨l4, i4⟩, s4⟩ := j4
      refine ⟨fun j k H' => k = m i - j ∧ j ≤ m i ∧ ∃ G', Same G4 G' ∧ Same G' H' ∧ I.ok G' H' ∧ (lA K D (rowsK m b e i ++ rowK (b i) (e i) j)).ok G' H' ∧ Stp (· = D) G1 (upd H1 D (.lst [])) G' H', ⟨m i, rfl, Nat.zero_le _, G4, Same.refl _, gh4, i4, by rw [rowK_0, List.append_nil]; exact l4, s4⟩, fun j k H' hw2 => ?_⟩
      obtain ⟨rfl, hj, G5, c1, c2, c3, c4, c5⟩ := hw2
      by_cases d : j < m i
      · obtain ⟨ρ2, hg2, ht, hel⟩ := hin j d
        refine .inr ⟨wk1.go j G5 H' d c1 c2, fun H2 => ∃ G2, Same G4 G2 ∧ Same G2 H2 ∧ I.ok G2 H2 ∧ (lA K D (rowsK m b e i ++ rowK (b i) (e i) (j + 1))).ok G2 H2 ∧ Stp (· = D) G1 (upd H1 D (.lst [])) G2 H2, fun H2 z => ⟨m i - (j + 1), by omega, rfl, d, z⟩, fun v2 H6 y2 => ?_⟩
        obtain ⟨G6, st6, dp6⟩ := wk1.yld j G5 H' v2 H6 d c1 c2 y2
        refine hg2 G6 H6 _ v2 _ st6.gh (env_wipe (env_mono ((g4.trans c1).trans st6.gg) en') vs1) dp6 fun σ3 en3 hw3 => ⟨hw3.trans (wipe_wipe σ' vs1), ?_⟩
        refine ht (((lA K D (rowsK m b e i ++ rowK (b i) (e i) j)).and I).and (Asn.since (· = D) G1 (upd H1 D (.lst [])))) G6 H6 σ3 st6.gh en3 ⟨⟨Asn.pure_st st6 c4, Asn.pure_st st6 c3⟩, c5.trans (st6.wide fun _ z => z.elim)⟩ _ fun G7 H7 g7 gh7 j7 => ?_
        by_cases hb : b i j = true
        · rw [if_pos hb]
          refine hel hb (((lA K D (rowsK m b e i ++ rowK (b i) (e i) j)).and I).and (Asn.since (· = D) G1 (upd H1 D (.lst [])))) G7 H7 σ3 gh7 (env_mono g7 en3) j7 _ fun z G3 H3 g3 gh3 j3 dy => ?_
          obtain ⟨⟨⟨gq, ws, hq, r2⟩, i3⟩, st3⟩ := j3
          have st4 := Stp.store (o := HO.lst (ws ++ [z])) gh3 gq hq
          refine ⟨ws, hq, by rw [dpa_len r2]; exact big c (by omega), G3, (((c1.trans st6.gg).trans g7).trans g3), st4.gh, I.st _ _ _ _ _ nD st4 i3, ⟨gq, _, upd_same, ?_⟩, st3.trans st4⟩
          rw [rowK_s, if_pos hb, ← List.append_assoc]
          exact dpa_app r2 (.cons dy .nil)
        · rw [if_neg hb]
          obtain ⟨⟨l7, i7⟩, s7⟩ := j7
          refine ⟨G7, (c1.trans st6.gg).trans g7, gh7, i7, ?_, s7⟩
          rw [rowK_s, if_neg hb, List.append_nil]
          exact l7
      · have ej : j = m i := by omega
        subst ej
        refine .inl ⟨wk1.stop G5 H' c1 c2, G5, (bb.trans g4).trans c1, c2, c3, ?_, c5⟩
        rw [rowsK_s]
        exact c4
    · have ei : i = n := by omega
      subst ei
      obtain ⟨gq, ws, hq, r2⟩ := a4
      have st : Stp (· = D) G' H' (upd G' D (.lst ws)) H' := Stp.frz a2 gq hq
      exact .inl ⟨wk.stop G' H' a1 a2, q _ (upd G' D (.lst ws)) H' ((g1'.trans a1).trans st.gg) st.gh (I.st _ _ _ _ _ nD st a3) (.lst (.inl (.inl upd_same)) (dp_monos st.gg _ ws r2))⟩
end
end PL
/-! a dict of one's own: reading it, and storing its last key again -/
namespace PL
open PySem PySem.Spec PyProof.Rows L2
variable [Nm]
section
variable {K : PySem.W.Frag} {ρ : Rho} {I J L N : Asn} {ta tb te : TE} {tr : TA} {x y : PyData}
theorem iw_r2 {lo hi : Int} {tl : TA} (h : A K tl ρ I [.i lo, .i hi] J) (h1 : -1000000 ≤ lo ∧ lo ≤ 1000000) (h2 : -1000000 ≤ hi ∧ hi ≤ 1000000) : IW K (iRng2 tl) ρ I (hi - lo).toNat (fun k => .int (lo + (k : Nat))) J := fun G H σ gh en io R r => h G H σ gh en io _ fun vs G1 H1 g1 gh1 j1 dvs => by
  obtain ⟨v, w, rfl, d1, d2⟩ := dva2 dvs
  obtain rfl := dv_int d1
  obtain rfl := dv_int d2
  exact ⟨lo, hi, rfl, ⟨by omega, by omega, by omega, by omega⟩, r _ G1 H1 g1 gh1 j1 walk_r⟩
end
end PL
/-! sorted of any rows that a key tells apart; sorted(d.items()) -/
namespace SrtG
open PySem PySem.Spec PyProof.Rows SrtO Srt SrtD
/-- a kind of rows: tuples that begin with a whole number, and how two of them are told apart -/
structure RowK where
  κ : Type
  key : PyData → κ
  lt : κ → κ → Bool
  swo : Swo lt
  row : PyData → Prop
  head : ∀ d, row d → ∃ (a : Int) (r : List PyData), d = .tuple (.int a :: r) ∧ ∀ x ∈ r, SeqAt.shaped x = true
  cmp : ∀ r r', row (.tuple r) → row (.tuple r') → (key (.tuple r) = key (.tuple r') → r = r') → lexL r r' = some (lt (key (.tuple r)) (key (.tuple r')))
def IsRow (R : RowK) (h : Heap) (v : Value) (d : PyData) : Prop := R.row d ∧ ∃ as, Reads h v d as
theorem IsRow.keeps {R : RowK} {h h' : Heap} {v : Value} {d : PyData} (p : IsRow R h v d) (hk : ∀ b o, h.get? b = some o → h'.get? b = some o) : IsRow R h' v d := ⟨p.1, p.2.imp fun _ r => PyProof.Rows.Reads.keeps hk r⟩
theorem all_sh {a : Int} {r : List PyData} (h : ∀ x ∈ r, SeqAt.shaped x = true) : ∀ x ∈ (.int a :: r : List PyData), SeqAt.shaped x = true := fun x hx => by
  rcases List.mem_cons.mp hx with rfl | hx
  · rfl
  · exact h x hx
/-! rows told by one whole number, by two -/
abbrev K2 := Int × Int
def lex2 (p q : K2) : Bool := decide (p.1 < q.1 ∨ (p.1 = q.1 ∧ p.2 < q.2))
theorem lex2_swo : Swo lex2 := ⟨fun x y h => by
  unfold lex2 at h ⊢
  rw [decide_eq_true_iff] at h
  rw [decide_eq_false_iff_not]
  omega, fun x y z h1 h2 => by
  unfold lex2 at h1 h2 ⊢
  rw [decide_eq_false_iff_not] at h1 h2 ⊢
  omega⟩
def key2 : PyData → K2
  | .tuple (.int a :: .int b :: _) => (a, b)
  | _ => (0, 0)
def Row2 (d : PyData) : Prop := ∃ (a b : Int) (r : List PyData), d = .tuple (.int a :: .int b :: r) ∧ ∀ x ∈ r, SeqAt.shaped x = true
def R2 : RowK where
  κ := K2
  key := key2
  lt := lex2
  swo := lex2_swo
  row := Row2
  head := fun d h => by
    obtain ⟨a, b, r, e, s1⟩ := h
    exact ⟨a, .int b :: r, e, all_sh s1⟩
  cmp := fun r r' h h' hk => by
    obtain ⟨a, b, t, e, s1⟩ := h
    obtain ⟨a', b', t', e', s2⟩ := h'
    injection e with e
    injection e' with e'
    subst e e'
    show lexL (.int a :: .int b :: t) (.int a' :: .int b' :: t') = some (lex2 (a, b) (a', b'))
    unfold lex2
    rw [lexL, lexL]
    simp only [eqv_ints]
    by_cases c : a = a'
    · rw [if_pos c]
      by_cases c2 : b = b'
      · rw [if_pos c2]
        have hk2 : (.int a :: .int b :: t : List PyData) = .int a' :: .int b' :: t' := hk (show (a, b) = (a', b') by rw [c, c2])
        have e2 : t = t' := (List.cons.inj (List.cons.inj hk2).2).2
        rw [← e2, lexL_self t s1, c, c2]
        congr 1
        symm
        rw [decide_eq_false_iff_not]
        try dsimp only
        omega
      · rw [if_neg c2]
        congr 1
        rw [decide_eq_decide]
        try dsimp only
        omega
    · rw [if_neg c]
      congr 1
      rw [decide_eq_decide]
      try dsimp only
      omega
end SrtG
namespace L2
open PySem PySem.Spec PyProof.Rows SrtG
section
variable {X : Cx}
/-! ### d.items(), sorted(d.items()), d with whole numbers as keys -/
theorem raw_of {kvs : List (Key × V)} {P : Program} {w : World} {H : Hp} {h : Heap} {a : Addr} (ok : HOk P w H h) (e : H a = some (.dK kvs)) : kvs.length ≤ sizeLine ∧ (a == sysModules) = false ∧ ∃ vs es ep, KV kvs vs ∧ DT.Raw h a es ep ∧ es.size = vs.length ∧ ∀ i (hi : i < es.size) k v, vs[i]? = some (k, v) → keyIs k es[i].key = true ∧ es[i].val = v := by
  obtain ⟨h1, h2, vs, h3, h4⟩ := dk_of ok e
  obtain ⟨es, ep, r, hs, hi⟩ := h4.raw
  exact ⟨h1, h2, vs, es, ep, h3, r, hs, hi⟩
end
end L2
/-! over data: sorted rows of any kind, sorted(d.items()); a dict of pairs as one's own, stores and readings of any key -/
namespace PL
open PySem PySem.Spec PyProof.Rows L2 SrtG
variable [Nm]
section
variable {K : PySem.W.Frag} {ρ : Rho} {I J L N : Asn} {ta tb tc te : TE} {tr : TA} {x y : PyData}
/-- objects that are new in H', and never change -/
def extG (G H H' : Hp) : Hp := fun b => match H b with
  | some _ => G b
  | none => H' b
theorem Stp.ext {G H H' : Hp} (h : Same G H) (e : ∀ b o, H b = some o → H' b = some o) : Stp NoA G H (extG G H H') H' := by
  have old : ∀ b o, H b = some o → extG G H H' b = G b := fun b o z => by unfold extG; rw [z]
  have new : ∀ b, H b = none → extG G H H' b = H' b := fun b z => by unfold extG; rw [z]
  refine ⟨fun b o z => ?_, fun b o z => ?_, fun b o _ z => .of (e b o z), fun b o _ z n => by rw [old b o z]; exact n, fun b o z => ⟨o, e b o z⟩, fun P t => t.keep (fun g => by obtain ⟨ps, hP⟩ := t.some; rw [old P _ hP]; exact g) fun b o z _ _ => e b o z⟩
  · obtain ⟨u, hu, _⟩ := (h b o z).some
    rw [old b u hu]
    exact .of z
  · cases c : H b with
    | none =>
      rw [new b c] at z
      exact .of z
    | some u =>
      rw [old b u c] at z
      have k := h b o z
      rw [c] at k
      rw [e b u c]
      exact k
theorem g_lst {ρ1 : Rho} {ds : List PyData} {g : TGs} {n : Nat} (hn : ds.length = n) (h : GJs K g ds ρ ρ1) : GJ K (gLst K n g) (.list ds) ρ ρ1 := fun G H σ v Q gh en dv q => by
  cases dv with
  | lst s r => exact ⟨_, _, rfl, gh.seq s, by rw [dpa_len r, hn], h G H σ _ Q gh en r q⟩
/-! ### a dict of one's own: any store, any reading, made of pairs -/
end
end PL
/-! over data: sorted(d), list.index, a comprehension with a test over any walk -/
namespace PL
open PySem PySem.Spec PyProof.Rows L2
variable [Nm]
section
variable {K : PySem.W.Frag} {ρ : Rho} {I J L N : Asn} {ta tb tc te : TE} {tr : TA} {x y : PyData}
/-- [e for g in .. if t] -/
theorem e_lcTW {wi : TI} {g : TG} {tt : TT} {vs : List Nat} {n : Nat} {xs : Nat → PyData} {b : Nat → Bool} {e : Nat → PyData} (hl : IW K wi ρ I n xs I) (hz : n ≤ 100000)
    (he : ∀ i, i < n → ∃ ρ', GW K g vs (xs i) (wipeR ρ vs) ρ' ∧ (∀ I', T K tt ρ' I' (b i) I') ∧ (b i = true → ∀ I', E K te ρ' I' (.d (e i)) I')) : E K (tLc wi g tt te vs) ρ I (.d (.list (rowK b e n))) I := fun G H σ gh en io Q q =>
  hl G H σ gh en io _ fun Ji G1 H1 g1 gh1 j1 wk D hD => by
    have gD : G1 D = none := gh1.free hD
    have nD : ∀ a, I.foot a → ¬ a = D := fun a fa z => by
      obtain ⟨o, ho⟩ := I.own G1 H1 a j1 fa
      rw [z, hD] at ho
      cases ho
    have st0 := Stp.newM (o := HO.lst []) gh1 hD
    refine ⟨fun i m H' => m = n - i ∧ i ≤ n ∧ ∃ G', Same G1 G' ∧ Same G' H' ∧ I.ok G' H' ∧ (lA K D (rowK b e i)).ok G' H' ∧ Stp (· = D) G1 (upd H1 D (.lst [])) G' H', ⟨n, rfl, Nat.zero_le _, G1, Same.refl _, st0.gh, Asn.pure_st st0 j1, ⟨gD, [], upd_same, .nil⟩, Stp.refl st0.gh⟩, fun i m H' hw => ?_⟩
    obtain ⟨rfl, hi, G', a1, a2, a3, a4, a5⟩ := hw
    by_cases c : i < n
    · obtain ⟨ρ', hg, ht, hel⟩ := he i c
      refine .inr ⟨wk.go i G' H' c a1 a2, fun H2 => ∃ G2, Same G1 G2 ∧ Same G2 H2 ∧ I.ok G2 H2 ∧ (lA K D (rowK b e (i + 1))).ok G2 H2 ∧ Stp (· = D) G1 (upd H1 D (.lst [])) G2 H2, fun H2 z => ⟨n - (i + 1), by omega, rfl, c, z⟩, fun v H2 y => ?_⟩
      obtain ⟨G2, st, dp⟩ := wk.yld i G' H' v H2 c a1 a2 y
      refine hg G2 H2 _ v _ st.gh (env_wipe (env_mono ((g1.trans a1).trans st.gg) en) vs) dp fun σ' en' hw => ⟨hw.trans (wipe_wipe σ vs), ?_⟩
      refine ht (((lA K D (rowK b e i)).and I).and (Asn.since (· = D) G1 (upd H1 D (.lst [])))) G2 H2 σ' st.gh en' ⟨⟨Asn.pure_st st a4, Asn.pure_st st a3⟩, a5.trans (st.wide fun _ z => z.elim)⟩ _ fun G7 H7 g7 gh7 j7 => ?_
      by_cases hb : b i = true
      · rw [if_pos hb]
        refine hel hb (((lA K D (rowK b e i)).and I).and (Asn.since (· = D) G1 (upd H1 D (.lst [])))) G7 H7 σ' gh7 (env_mono g7 en') j7 _ fun z G3 H3 g3 gh3 j3 dy => ?_
        obtain ⟨⟨⟨gq, ws, hq, r2⟩, i3⟩, st3⟩ := j3
        have st4 := Stp.store (o := HO.lst (ws ++ [z])) gh3 gq hq
        refine ⟨ws, hq, ?_, G3, ((a1.trans st.gg).trans g7).trans g3, st4.gh, I.st _ _ _ _ _ nD st4 i3, ⟨gq, _, upd_same, ?_⟩, st3.trans st4⟩
        · rw [dpa_len r2]
          have := rowK_len (b := b) (e := e) i
          rw [sizeLine_eq]
          omega
        · rw [rowK_s, if_pos hb]
          exact dpa_app r2 (.cons dy .nil)
      · rw [if_neg hb]
        obtain ⟨⟨l7, i7⟩, s7⟩ := j7
        refine ⟨G7, (a1.trans st.gg).trans g7, gh7, i7, ?_, s7⟩
        rw [rowK_s, if_neg hb, List.append_nil]
        exact l7
    · have ei : i = n := by omega
      subst ei
      obtain ⟨gq, ws, hq, r2⟩ := a4
      have st : Stp (· = D) G' H' (upd G' D (.lst ws)) H' := Stp.frz a2 gq hq
      exact .inl ⟨wk.stop G' H' a1 a2, q _ (upd G' D (.lst ws)) H' ((g1.trans a1).trans st.gg) st.gh (I.st _ _ _ _ _ nD st a3) (.lst (.inl (.inl upd_same)) (dp_monos st.gg _ ws r2))⟩
end
end PL
/-! comprehensions whose elements lean on what holds around them -/
namespace PL
open PySem PySem.Spec PyProof.Rows L2
variable [Nm]
section
variable {K : PySem.W.Frag} {ρ : Rho} {I J L N : Asn} {ta tb tc te : TE} {tr : TA} {x y : PyData}
theorem HasT.of {T : Tbs} [h : HasT T I] {I' : Asn} (k : ∀ G H, I'.ok G H → I.ok G H) : HasT T I' := ⟨fun G H z => h.get G H (k G H z)⟩
end
end PL
set_option maxHeartbeats 1000000
/-! sorted(xs, key=lambda z: (z[0], z[1])) -/
namespace LM
open PySem PySem.Spec PyProof.Rows L2
section
variable {prog : Program} {w : World} {A : Around} {s : Shared} {E : Value → Shared → Prop} {Q : Value → Shared → Prop} {env : Env}
/-- z[i] within the lambda -/
theorem item_now {a : Str} {p1 p2 p3 : Pos} {kd : Nat} {i : Int} {j : Nat} {p : Addr} {its : List Value} {x : Value} {m : Str → Option Value} (hk : env.scope.kind = .function) (hl : env.kindOf a = some .local) (hn : s.heap.Ns env.locals m) (hm : m a = some (.ref p)) (hd : (a == ("__debug__" : Str)) = false)
    (ht : IsTup s.heap p its.toArray) (h0 : i = (j : Nat)) (hj : j < 2 ^ 62) (hx : its[j]? = some x) (h : ∀ tk, Q x { s with toks := tk }) : wpAny (model prog w) A (eval (.Subscript (.Name a p1) (.Constant (.int i) kd p2) p3) env) Q E s := by
  subst h0
  have hlt : j < its.length := (List.getElem?_eq_some_iff.mp hx).1
  refine Subscript_ (wpAny_Name (wpAny_loadName_local hk hl hn hm ?_) hd)
  refine wpAny_Constant_int ?_
  refine item_tuple (items := its.toArray) (j := j) ht (by omega) (by omega) ?_ (by simpa using hx) (h _)
  rw [seqIndex_of (by omega) (by rw [List.size_toArray]; omega)]
  simp
/-- the key: (z[0], z[1]) -/
theorem body_now {a : Str} {p1 p2 p3 p4 p5 p6 p7 : Pos} {k1 k2 x1 : Nat} {p : Addr} {its : List Value} {x y : Value} {m : Str → Option Value} (hk : env.scope.kind = .function) (hl : env.kindOf a = some .local) (hn : s.heap.Ns env.locals m) (hm : m a = some (.ref p)) (hd : (a == ("__debug__" : Str)) = false)
    (ht : IsTup s.heap p its.toArray) (hx : its[0]? = some x) (hy : its[1]? = some y) (h : ∀ tk, Q (.ref s.heap.objs.size) { s with toks := tk, heap := s.heap.push { cls := .type "tuple", data := .seq #[x, y] } }) :
    wpAny (model prog w) A (eval (.Tuple [.Subscript (.Name a p1) (.Constant (.int 0) k1 p2) p3, .Subscript (.Name a p4) (.Constant (.int 1) k2 p5) p6] x1 p7) env) Q E s := by
  refine wpAny_Tuple_spliced ?_
  show wpAny _ _ (spliced ((false, _) :: (false, _) :: [])) _ _ s
  refine Calls.spliced_cons (item_now (j := 0) hk hl hn hm hd ht rfl (by decide) hx fun t1 => ?_)
  refine Calls.spliced_cons (item_now (s := { s with toks := t1 }) (j := 1) hk hl hn hm hd ht rfl (by decide) hy fun t2 => ?_)
  refine Calls.spliced_nil ⟨?_, h t2⟩
  show 2 ≤ sizeLine
  rw [sizeLine_eq]
  decide
/-- the body of such a lambda -/
def keyBody (a : Str) (p1 p2 p3 p4 p5 p6 p7 : Pos) (k1 k2 x1 : Nat) : Expr := .Tuple [.Subscript (.Name a p1) (.Constant (.int 0) k1 p2) p3, .Subscript (.Name a p4) (.Constant (.int 1) k2 p5) p6] x1 p7
/-- its scope: one name, the parameter -/
structure KeyS (a : Str) (sc : Scope) : Prop where
  kind : sc.kind = .function
  co : sc.isCoroutine = false
  gen : sc.isGenerator = false
  cell : ∀ y ∈ sc.names, y.2 ≠ .cell
  free : ∀ y ∈ sc.names, y.2 ≠ .free
  par : sc.names.lookup a = some .local
  dbg : (a == ("__debug__" : Str)) = false
/-- its call gives the key and keeps all that was -/
theorem lam_call {a qn : Str} {p1 p2 p3 p4 p5 p6 p7 : Pos} {k1 k2 x1 : Nat} {sc : Scope} {params : Arguments} {f c' p : Addr} {pm ctv : Value} {its : List Value} {i j : Int} {ti tj : Tok} (S : KeyS a sc) (dp : A.depth < recursionLimit)
    (hf : s.heap.get? f = some (PySem.W.kla_obj "<lambda>" qn params (keyBody a p1 p2 p3 p4 p5 p6 p7 k1 k2 x1) sc [] pm c' ctv)) (hc : ∃ (oc : Obj) (vs : Array Value) (t : Tok), s.heap.get? c' = some oc ∧ oc.data = .fields vs ∧ vs[1]? = some (.str qn t)) (lim : s.heap.NoLimit)
    (hb : bindArgs (PySem.W.kla_fn "<lambda>" qn params (keyBody a p1 p2 p3 p4 p5 p6 p7 k1 k2 x1) sc [] pm (.ref c') ctv) ⟨[.ref p], []⟩ = pure [(a, .ref p)])
    (ht : IsTup s.heap p its.toArray) (hx : its[0]? = some (.int i ti)) (hy : its[1]? = some (.int j tj)) :
    wpAny (model prog w) A (call (.ref f) [.ref p]) (PySem.W.KeyPure (.tuple [.int i, .int j]) s) (fun _ _ => False) s := by
  refine wpAny_call ?_
  obtain ⟨oc, vs, t, h1, h2, h3⟩ := hc
  refine PySem.W.kla_callFunE dp hf rfl S.co S.gen rfl ⟨c', oc, vs, t, rfl, h1, h2, h3⟩ ?_
  rw [hb]
  refine wpAny_pure (wpAny_newFunctionEnv S.cell (fun y hy => by rw [List.mem_singleton.mp hy]; exact S.par) (fun h₁ hns hsb => ?_) S.kind)
  have kp : ∀ b o, s.heap.get? b = some o → h₁.get? b = some o := fun b o e => hsb.extBut b o (Nat.ne_of_lt (Heap.lt_size e)) (Heap.get?_push_of_some _ e)
  refine ⟨lim.fresh _ hsb, ?_⟩
  refine PySem.W.kla_codeExpr ?_
  refine body_now (m := fun x => ([(a, .ref p)] : List (Str × Value)).reverse.lookup x) S.kind S.par hns ?_ S.dbg (ht.keeps kp) hx hy fun tk => ?_
  · show List.lookup a [(a, Value.ref p)] = _
    simp [List.lookup]
  · refine ⟨_, tk, rfl, fun b o e => Heap.get?_push_of_some _ (kp b o e), ?_⟩
    exact .tuple (Heap.get?_push_size _ rfl) rfl rfl (.cons (as := []) (bs := []) (.int i ti) (.cons (as := []) (bs := []) (.int j tj) .nil))
end
/-! ### the heap that is told of, across the making of a lambda -/
open LamX in
/-- all but the table at P is as it was; the table tells codes of the name q -/
structure Lm (P : Addr) (q : Str) (H H' : Hp) : Prop where
  keep : ∀ b o, b ≠ P → H b = some o → H' b = some o
  tab : TabS H' P q
open LamX in
theorem tab_ne {H : Hp} {P b : Addr} {q : Str} {o : HO} (t : TabS H P q) (h : H b = some o) (n : ∀ ps, o ≠ .tbl ps) : b ≠ P := fun z => by
  obtain ⟨ps, e, _⟩ := t
  rw [z, e] at h
  exact n ps (Option.some.inj h).symm
open LamX in
theorem Lm.seqL {K : PySem.W.Frag} {P a : Addr} {q : Str} {H H' : Hp} {xs : List V} (l : Lm P q H H') (t : TabS H P q) (h : SqL K H a xs) : SqL K H' a xs := by
  rcases h with (h | ⟨o, h⟩) | h
  · exact .inl (.inl (l.keep _ _ (tab_ne t h fun _ z => by cases z) h))
  · exact .inl (.inr ⟨o, l.keep _ _ (tab_ne t h fun _ z => by cases z) h⟩)
  · exact .inr h
open LamX in
theorem Lm.seqT {K : PySem.W.Frag} {P a : Addr} {q : Str} {H H' : Hp} {xs : List V} (l : Lm P q H H') (t : TabS H P q) (h : SqT K H a xs) : SqT K H' a xs := by
  rcases h with (h | ⟨o, h⟩) | h
  · exact .inl (.inl (l.keep _ _ (tab_ne t h fun _ z => by cases z) h))
  · exact .inl (.inr ⟨o, l.keep _ _ (tab_ne t h fun _ z => by cases z) h⟩)
  · exact .inr h
section
open LamX
variable {X : Cx} {pins : List (Addr × Obj)} {σ : L2.St} {H : Hp} {s : Shared}
theorem clo_nil : ∀ (ns : List (Str × NameKind)) (cells : List (Str × Addr)), (∀ y ∈ ns, y.2 ≠ .free) → cloFrom cells ns [] = []
  | [], _, _ => rfl
  | (n, k) :: ns, cells, h => by
    have hk := h (n, k) List.mem_cons_self
    have ih := clo_nil ns cells fun y hy => h y (List.mem_cons_of_mem _ hy)
    cases k <;> first | exact absurd rfl hk | (unfold cloFrom; exact ih)
/-- the lambda stands -/
theorem lam_new {c P : Addr} {params : Arguments} {body : Expr} {sc : Scope} {pos : Pos} {E Q : Value → Shared → Prop} (I : Inv X pins σ H s) (B : TabB X.base X.mg c P) (hcd : X.env.code = .ref c) (ht : TabS H P (X.env.qual ++ "<lambda>")) (hd : defaultsOf params X.env = ([], [])) (nf : ∀ y ∈ sc.names, y.2 ≠ .free)
    (done : ∀ (f c' : Addr) (pm ctv : Value) (H1 : Hp) (s1 : Shared), Inv X pins σ H1 s1 → Lm P (X.env.qual ++ "<lambda>") H H1 → s1.heap.get? f = some (PySem.W.kla_obj "<lambda>" (X.env.qual ++ "<lambda>") params body sc [] pm c' ctv) →
      (∃ (oc : Obj) (vs : Array Value) (t : Tok), s1.heap.get? c' = some oc ∧ oc.data = .fields vs ∧ vs[1]? = some (.str (X.env.qual ++ "<lambda>") t)) → Q (.ref f) s1) : wpAny (model X.prog X.w) X.A (eval (.Lambda params body sc pos) X.env) Q E s := by
  obtain ⟨ps, hP, tr, all⟩ := ht
  have clo : closureFor sc X.env = pure [] := by
    rw [closure_ok fun y hy e => absurd e (nf y hy), clo_nil _ _ nf]
  have sP := I.hok P _ hP
  have bP := B.bm.keeps I.bk
  have gl := I.mod.glob.keeps I.bk
  refine PySem.W.kla_eval hd ?_
  rcases hz : codeAmong pos ps.toList with _ | cv
  · refine PySem.W.kla_makeFunction (mg := X.mg) (c := c) (P := P) (ps := ps) clo I.ok.glob gl hcd (B.code.keeps I.bk) sP tr hz B.gP bP fun c' ctv h1 tk eb le lt rec tb => ?_
    obtain ⟨c2, oc, vs, t, e2, e3, e4, e5⟩ := rec
    cases e2
    have nc : H c' = none := I.hok.fresh le
    have nPc : P ≠ c' := fun z => by
      rw [← z, hP] at nc
      cases nc
    have J := inv_table (q := X.env.qual ++ "<lambda>") (t' := tk) (more := #[rawInt pos.line, rawInt pos.col, .ref c']) (h' := h1.push (PySem.W.kla_obj "<lambda>" (X.env.qual ++ "<lambda>") params body sc [] ((X.mg "__name__").getD .none) c' ctv)) I hP
      (fun b o nb e => Heap.get?_push_of_some _ (eb b o nb e)) (Heap.get?_push_of_some _ tb) le ⟨oc, vs, t, Heap.get?_push_of_some _ e3, e4, e5⟩
    refine done _ c' _ ctv _ _ J ⟨fun b o nb e => ?_, ⟨ps ++ #[rawInt pos.line, rawInt pos.col, .ref c'], ?_, ?_, fun p2 cv hcv => ?_⟩⟩ (Heap.get?_push_size _ rfl) ⟨oc, vs, t, Heap.get?_push_of_some _ e3, e4, e5⟩
    · have nb2 : b ≠ c' := fun z => by
        rw [z, nc] at e
        cases e
      rw [upd_ne nb2, upd_ne nb]
      exact e
    · rw [upd_ne nPc, upd_same]
    · rw [show (ps ++ #[rawInt pos.line, rawInt pos.col, .ref c']).toList = ps.toList ++ [rawInt pos.line, rawInt pos.col, .ref c'] by simp]
      exact PySem.TriplesOk_snoc _ _ _ _ tr
    · rw [show (ps ++ #[rawInt pos.line, rawInt pos.col, .ref c']).toList = ps.toList ++ [rawInt pos.line, rawInt pos.col, .ref c'] by simp] at hcv
      rcases among_app _ tr hcv with z | z
      · obtain ⟨c0, q1, q2⟩ := all p2 cv z
        have n0 : c0 ≠ c' := fun y => by
          rw [y, nc] at q2
          cases q2
        have n1 : c0 ≠ P := fun y => by
          rw [y, hP] at q2
          exact codeO_ne ps (Option.some.inj q2).symm
        exact ⟨c0, q1, by rw [upd_ne n0, upd_ne n1]; exact q2⟩
      · exact ⟨c', z, upd_same⟩
  · obtain ⟨c', rfl, q2⟩ := all pos cv hz
    refine PySem.W.kla_makeFunctionHit (mg := X.mg) (c := c) (P := P) (ps := ps) clo I.ok.glob gl hcd (B.code.keeps I.bk) sP tr hz bP fun ctv h1 tk kp le => ?_
    have J : Inv X pins σ H { s with heap := h1.push (PySem.W.kla_obj "<lambda>" (X.env.qual ++ "<lambda>") params body sc [] ((X.mg "__name__").getD .none) c' ctv), toks := tk } := I.kept fun b o e => Heap.get?_push_of_some _ (kp b o e)
    obtain ⟨⟨oc, vs, t, e3, e4, e5⟩, _, _⟩ := I.hok c' _ q2
    exact done _ c' _ ctv H _ J ⟨fun _ _ _ e => e, ⟨ps, hP, tr, all⟩⟩ (Heap.get?_push_size _ rfl) ⟨oc, vs, t, Heap.get?_push_of_some _ (kp _ _ e3), e4, e5⟩
end
/-- rows and their keys: the order -/
abbrev RowL := Addr × Int × Int
def leL (x y : RowL) : Bool := decide (x.2.1 < y.2.1 ∨ (x.2.1 = y.2.1 ∧ x.2.2 ≤ y.2.2))
open LamX in
def tSLam (K : PySem.W.Frag) (P : Addr) (q : Str) (ta : TA) : TE := fun σ H Q => ta σ H fun vs H1 => ∃ (l : Addr) (rows : List RowL), vs = [.ref l] ∧ SqL K H1 l (rows.map fun r => V.ref r.1) ∧ (∀ r ∈ rows, ∃ rest, SqT K H1 r.1 (.int r.2.1 :: .int r.2.2 :: rest)) ∧ TabS H1 P q ∧
  ∀ H2, Lm P q H1 H2 → ∀ D, H2 D = none → Q (.ref D) (upd H2 D (.lst ((rows.mergeSort leL).map fun r => V.ref r.1)))
theorem each_of {α β : Type} {R : α → β → Prop} : ∀ {xs : List α} {ys : List β}, xs.length = ys.length → (∀ (i : Nat) (x : α) (y : β), xs[i]? = some x → ys[i]? = some y → R x y) → PySem.W.EachIs R xs ys
  | [], [], _, _ => .nil
  | [], _ :: _, h, _ => by simp at h
  | _ :: _, [], h, _ => by simp at h
  | x :: xs, y :: ys, h, r => .cons (r 0 x y rfl rfl) (each_of (by simpa using h) fun i a b ha hb => r (i + 1) a b (by simpa using ha) (by simpa using hb))
theorem each_map {α β : Type} {f : β → α} : ∀ {xs : List α} {ys : List β}, PySem.W.EachIs (fun x y => x = f y) xs ys → xs = ys.map f
  | _, _, .nil => rfl
  | _, _, .cons h t => by rw [h, each_map t]; rfl
theorem vals_refs {α : Type} {f : α → Addr} : ∀ (xs : List α) (us : List Value), Vals (xs.map fun r => V.ref (f r)) us → us = xs.map fun r => Value.ref (f r)
  | [], _, .nil => rfl
  | x :: xs, _, .cons h t => by
    rw [vals_refs xs _ t]
    cases h
    rfl
theorem vals_of {α : Type} {f : α → Addr} : ∀ (xs : List α), Vals (xs.map fun r => V.ref (f r)) (xs.map fun r => Value.ref (f r))
  | [] => .nil
  | x :: xs => .cons rfl (vals_of xs)
section
open LamX
variable {X : Cx}
/-- sorted(e, key=lambda z: (z[0], z[1])) -/
theorem pe_sortLam {a q : Str} {c P : Addr} {e : Expr} {ta : TA} {p pos kpos lpos p1 p2 p3 p4 p5 p6 p7 : Pos} {k1 k2 x1 k : Nat} {sc : Scope} {params : Arguments} (hg : Gl X "sorted") (hm : X.mg "sorted" = none) (B : TabB X.base X.mg c P) (hcd : X.env.code = .ref c) (hr : Room k X.A) (S : KeyS a sc) (hd : defaultsOf params X.env = ([], [])) (hqn : X.env.qual ++ ("<lambda>" : Str) = q)
    (hb : ∀ (qn : Str) (pm cv ctv v : Value), bindArgs (PySem.W.kla_fn "<lambda>" qn params (keyBody a p1 p2 p3 p4 p5 p6 p7 k1 k2 x1) sc [] pm cv ctv) ⟨[v], []⟩ = pure [(a, v)]) (ha : PA X [e] ta)
    (he : backTo pos (starEach [e] X.env) = (false, eval e X.env) :: backTo pos (starEach [] X.env) := by rfl) (hpl : (backTo pos (starEach [e] X.env)).any (·.1) = false := by rfl) :
    PE X (.Call (.Name "sorted" p) [e] [⟨some "key", .Lambda params (keyBody a p1 p2 p3 p4 p5 p6 p7 k1 k2 x1) sc lpos, kpos⟩] pos) (tSLam X.K P q ta) := by
  subst hqn
  refine ⟨fun pins s σ H Q I h => ?_⟩
  refine wpAny_Call_Name_kw (ld_blt (X := X) I hg hm (show bootBuiltins "sorted" = some (.builtin "sorted") by decide +kernel) ?_)
  refine PyProof.Rows.callWith_kw (thn (ha.run pos pins s σ H _ I h) fun us s1 ⟨vs, H1, I1, r1, q1⟩ => ?_) he hpl
  obtain ⟨l, rows, rfl, hl, hrow, ht, hq⟩ := q1
  cases r1 with
  | cons r0 rn =>
  cases rn
  cases r0
  refine wpAny_evalAll_cons (wpAny_bind (lam_new I1 B hcd ht hd S.free fun f c' pm ctv H2 s2 I2 lm hf hc => wpAny_bind (wpAny_standAt (wpAny_pure (wpAny_evalAll_nil ?_)))))
  show wpAny _ _ (call (.builtin "sorted") [.ref l] [(Str.ofString "key", .ref f)]) _ _ s2
  obtain ⟨its, hv, pl, hz⟩ := I2.list (lm.seqL ht hl)
  rw [vals_refs rows its hv] at pl
  have lenR : rows.length ≤ sizeLine := by rw [List.length_map] at hz; exact hz
  refine PySem.W.sorted_key_data (vs := rows.map fun r => Value.ref r.1) (b := false) (R := fun v r => v = Value.ref r.1 ∧ ∃ (us : List Value) (ti tj : Tok), IsTup s2.heap r.1 us.toArray ∧ us[0]? = some (.int r.2.1 ti) ∧ us[1]? = some (.int r.2.2 tj)) (fun r : RowL => .tuple [.int r.2.1, .int r.2.2]) pl.isList (each_of (by rw [List.length_map]) fun i v r h1 h2 => ?_)
    (PySem.W.AllAlike.of fun _ _ => by simp [PySem.W.alike, PySem.W.alikeAll]) (PySem.W.Sortable.tuples fun _ => ⟨_, _, rfl⟩) lenR (fun r _ => ?_) (ksk_s1 _ _) (fun _ => ksk_l1 _ _) (fun _ => ksk_t1 _ _) (fun v r hvr _ h' tk kp => ?_) fun out cc h' tk kp _ hD hlen eo => ?_
  · rw [List.getElem?_map, h2] at h1
    obtain rfl := Option.some.inj h1
    obtain ⟨rest, hs⟩ := hrow r (List.mem_of_getElem? h2)
    obtain ⟨us, ru, iu, _⟩ := I2.tuple (lm.seqT ht hs)
    cases ru with
    | cons ra ru =>
    cases ru with
    | cons rb ru =>
    obtain ⟨ti, rfl⟩ := ra
    obtain ⟨tj, rfl⟩ := rb
    exact ⟨rfl, _, ti, tj, iu, rfl, rfl⟩
  · have hdp : (PyData.tuple [.int r.2.1, .int r.2.2]).depth = 1 := by simp [PyData.depth, PyData.depthAll]
    have := hr.un
    rw [hdp]
    omega
  · obtain ⟨rfl, us, ti, tj, iu, e1, e2⟩ := hvr
    obtain ⟨oc, ws, t, g1, g2, g3⟩ := hc
    have dp : X.A.in1.in1.depth < recursionLimit := by
      have := hr.dp
      show X.A.depth < _
      omega
    exact lam_call (s := { s2 with heap := h', toks := tk }) S dp (kp _ _ hf) ⟨oc, ws, t, kp _ _ g1, g2, g3⟩ (I2.nolimit.keeps kp) (hb _ _ _ _ _) (iu.keeps kp) e1 e2
  · have eo2 := each_map (f := fun r : RowL => Value.ref r.1) (eo.mono fun _ _ z => z.1)
    rw [PySem.W.dataLe_ii (β := RowL) (fun r => r.2.1) (fun r => r.2.2)] at eo2
    have hfr : H2 (s2.heap.objs.size + 1) = none := I2.hok.fresh (Nat.le_succ _)
    refine ⟨.ref (s2.heap.objs.size + 1), _, I2.laid (t' := tk) kp (Nat.le_succ _) ?_, rfl, hq H2 lm _ hfr⟩
    refine ⟨by rw [List.length_map, List.length_mergeSort]; exact lenR, _, cc, vals_of (f := fun r : RowL => r.1) _, ?_⟩
    rw [hD, eo2]
    rfl
end
end LM
/-! over data: sorted(xs, key=lambda z: (z[0], z[1])) -/
namespace PL
open PySem PySem.Spec PyProof.Rows L2
variable [Nm]
def key2D : PyData → Int × Int
  | .tuple (.int a :: .int b :: _) => (a, b)
  | _ => (0, 0)
theorem nodup_inj {α β : Type} {f : α → β} : ∀ {xs : List α} {a b : α}, (xs.map f).Nodup → a ∈ xs → b ∈ xs → f a = f b → a = b
  | x :: xs, a, b, nd, ha, hb, e => by
    rw [List.map_cons, List.nodup_cons] at nd
    rcases List.mem_cons.mp ha with rfl | ha2 <;> rcases List.mem_cons.mp hb with rfl | hb2
    · rfl
    · exact (nd.1 (by rw [e]; exact List.mem_map.mpr ⟨_, hb2, rfl⟩)).elim
    · exact (nd.1 (by rw [← e]; exact List.mem_map.mpr ⟨_, ha2, rfl⟩)).elim
    · exact nodup_inj nd.2 ha2 hb2 e
def le2 (x y : Int × Int) : Prop := x.1 < y.1 ∨ (x.1 = y.1 ∧ x.2 ≤ y.2)
section
variable {K : PySem.W.Frag} {ρ : Rho} {I J : Asn} {tr : TA}
/-- a row of the list: its object, its key, its data -/
abbrev Row3L := (Addr × Int × Int) × PyData
theorem rows_of {G : Hp} : ∀ {vs : List V} {ds : List PyData}, DpAll K G vs ds → (∀ d ∈ ds, ∃ a b r, d = .tuple (.int a :: .int b :: r)) →
    ∃ zs : List Row3L, vs = zs.map (fun z => V.ref z.1.1) ∧ ds = zs.map (·.2) ∧ ∀ z ∈ zs, z.1.2 = key2D z.2 ∧ Dp K G (.ref z.1.1) z.2 ∧ ∃ rest, SqT K G z.1.1 (.int z.1.2.1 :: .int z.1.2.2 :: rest)
  | _, _, .nil, _ => ⟨[], rfl, rfl, fun z h => by cases h⟩
  | _, d :: ds, .cons (vs := vs) h t, hr => by
    obtain ⟨a, b, r, rfl⟩ := hr d List.mem_cons_self
    obtain ⟨zs, e1, e2, e3⟩ := rows_of t fun x hx => hr x (List.mem_cons_of_mem _ hx)
    have h0 := h
    cases h with
    | tup s rr =>
      rename_i p us
      cases rr with
      | cons ra rr =>
      cases rr with
      | cons rb rr =>
      cases ra
      cases rb
      refine ⟨((p, a, b), .tuple (.int a :: .int b :: r)) :: zs, by rw [e1]; rfl, by rw [e2]; rfl, fun z hz => ?_⟩
      rcases List.mem_cons.mp hz with rfl | hz
      · exact ⟨rfl, h0, _, s⟩
      · exact e3 z hz
theorem dpa_map {G : Hp} : ∀ {zs : List Row3L}, (∀ z ∈ zs, Dp K G (.ref z.1.1) z.2) → DpAll K G (zs.map fun z => V.ref z.1.1) (zs.map (·.2))
  | [], _ => .nil
  | z :: zs, h => .cons (h z List.mem_cons_self) (dpa_map fun y hy => h y (List.mem_cons_of_mem _ hy))
/-- sorted(xs, key=lambda z: (z[0], z[1])) -/
theorem e_sortLam {T : Tbs} {P : Addr} {q : Str} {ds es : List PyData} [hT : HasT T J] (hP : P ∈ T.ls) (hq : Nm.nm P = q) (hr : A K tr ρ I [.d (.list ds)] J) (rows : ∀ d ∈ ds, ∃ a b r, d = .tuple (.int a :: .int b :: r)) (nd : (ds.map key2D).Nodup) (pm : es.Perm ds) (up : es.Pairwise fun x y => le2 (key2D x) (key2D y)) :
    E K (LM.tSLam K P q tr) ρ I (.l es) J := fun G H σ gh en io Q k => hr G H σ gh en io _ fun vs G1 H1 g1 gh1 j1 dvs => by
  obtain ⟨v, rfl, dv⟩ := dva1 dvs
  cases dv with
  | lst s r =>
    rename_i l us
    obtain ⟨zs, rfl, rfl, hz⟩ := rows_of r rows
    have t := (hT.get _ _ j1).2 P hP
    have t2 := t.2
    rw [hq] at t2
    refine ⟨l, zs.map (·.1), rfl, by rw [List.map_map]; exact gh1.seq s, fun r hr => ?_, t2, fun H2 lm D hD => ?_⟩
    · obtain ⟨z, hzm, rfl⟩ := List.mem_map.mp hr
      obtain ⟨_, _, rest, hs⟩ := hz z hzm
      exact ⟨rest, same_t gh1 hs⟩
    · have st1 := Stp.lam gh1 t hq lm.keep lm.tab
      have st2 := Stp.new (o := HO.lst (((zs.map (·.1)).mergeSort LM.leL).map fun r => V.ref r.1)) st1.gh hD
      have st := st1.trans st2
      let le' : Row3L → Row3L → Bool := fun x y => LM.leL x.1 y.1
      have em : (zs.mergeSort le').map (·.1) = (zs.map (·.1)).mergeSort LM.leL := List.map_mergeSort fun a _ b _ => rfl
      have pz : (zs.mergeSort le').Perm zs := List.mergeSort_perm zs le'
      have srt : (zs.mergeSort le').Pairwise fun x y => le' x y = true := List.pairwise_mergeSort (fun a b c h1 h2 => by
        simp only [le', LM.leL, decide_eq_true_iff] at h1 h2 ⊢
        omega) (fun a b => by
        simp only [le', LM.leL, Bool.or_eq_true, decide_eq_true_iff]
        omega) zs
      have e2 : es = (zs.mergeSort le').map (·.2) := by
        refine List.Perm.eq_of_pairwise (le := fun x y => le2 (key2D x) (key2D y)) (fun a b ha hb h1 h2 => ?_) up ?_ (pm.trans (pz.map _).symm)
        · have ha' := pm.mem_iff.mp ha
          have hb' : b ∈ zs.map (·.2) := (pz.map _).mem_iff.mp hb
          have ek : key2D a = key2D b := by
            unfold le2 at h1 h2
            exact Prod.ext (by omega) (by omega)
          exact nodup_inj nd ha' hb' ek
        · rw [List.pairwise_map]
          refine srt.imp_of_mem fun {x y} hx hy h => ?_
          have kx := (hz x (pz.mem_iff.mp hx)).1
          have ky := (hz y (pz.mem_iff.mp hy)).1
          simp only [le', LM.leL, decide_eq_true_iff] at h
          show le2 (key2D x.2) (key2D y.2)
          rw [← kx, ← ky]
          exact h
      refine k _ _ _ (g1.trans st.gg) st.gh (Asn.pure_st st j1) ⟨D, _, rfl, upd_same, ?_⟩
      have eV : (((zs.map (·.1)).mergeSort LM.leL).map fun r => V.ref r.1) = (zs.mergeSort le').map fun z => V.ref z.1.1 := by
        rw [← em, List.map_map]
        rfl
      rw [e2]
      show DpAll K _ (((zs.map (·.1)).mergeSort LM.leL).map fun r => V.ref r.1) _
      have key := dp_monos st.gg _ _ (dpa_map (zs := zs.mergeSort le') fun z hzm => (hz z (pz.mem_iff.mp hzm)).2.1)
      rw [← eV] at key
      exact key
end
end PL
/-! a dict comprehension with a test; list.extend; a displayed tuple as a plain one; x in a tuple of data -/
namespace L2
open PySem PySem.Spec PyProof.Rows
section
variable {X : Cx}
/-- a displayed tuple, told as a plain one -/
def tTupU (t : TA) : TE := fun σ H Q => t σ H fun xs H1 => xs.length ≤ sizeLine ∧ ∀ p o, H1 p = none → o.dict = none → Q (.ref p) (upd H1 p (.frz o (.tup xs)))
theorem pe_tupU {es : List Expr} {t : TA} {pos : Pos} {k : Nat} (h : PA X es t) : PE X (.Tuple es k pos) (tTupU t) := by
  refine ⟨fun pins s σ H Q I hq => ?_⟩
  refine wpAny_Tuple_spliced (thn (h.run pos pins s σ H _ I hq) fun us s1 ⟨xs, H1, I1, r, z, q⟩ => ⟨by rw [← r.length]; exact z, ?_⟩)
  have hg : (s1.heap.push { cls := .type "tuple", data := .seq us.toArray }).get? s1.heap.objs.size = some { cls := .type "tuple", data := .seq us.toArray } := Heap.get?_push_size _ rfl
  exact ⟨.ref s1.heap.objs.size, _, I1.laid (t' := s1.toks) (fun b o e => Heap.get?_push_of_some _ e) (Nat.le_refl _) (show ObjOk X.prog X.w _ _ _ (.frz { cls := .type "tuple", data := .seq us.toArray } (.tup xs)) from ⟨hg, z, us, r, IsTup.new _ _⟩), rfl, q _ _ (I1.hok.fresh (Nat.le_refl _)) rfl⟩
end
end L2
namespace PL
open PySem PySem.Spec PyProof.Rows L2
variable [Nm]
def rowD (b : Nat → Bool) (k : Nat → Int) (e : Nat → PyData) (j : Nat) : List (Key × PyData) := ((List.range j).filter b).map fun j => (.inl (k j), e j)
theorem rowD_s {b : Nat → Bool} {k : Nat → Int} {e : Nat → PyData} {j : Nat} : rowD b k e (j + 1) = rowD b k e j ++ (if b j = true then [(.inl (k j), e j)] else []) := by
  unfold rowD
  rw [List.range_succ, List.filter_append, List.map_append]
  by_cases h : b j = true
  · rw [if_pos h, List.filter_cons_of_pos h]
    rfl
  · rw [if_neg h, List.filter_cons_of_neg h]
    rfl
theorem rowD_len {b : Nat → Bool} {k : Nat → Int} {e : Nat → PyData} (j : Nat) : (rowD b k e j).length ≤ j := by
  unfold rowD
  rw [List.length_map]
  exact Nat.le_trans (List.length_filter_le _ _) (by rw [List.length_range]; exact Nat.le_refl _)
theorem rng_inj {n : Nat} {k : Nat → Int} {i j : Nat} (nd : ((List.range n).map k).Nodup) (hi : i < n) (hj : j < n) (h : k i = k j) : i = j :=
  nodup_inj nd (List.mem_range.mpr hi) (List.mem_range.mpr hj) h
section
variable {K : PySem.W.Frag} {ρ : Rho} {I J L N : Asn} {ta tb tc te : TE} {tr : TA} {x y : PyData} {ts : TS} {k : Out} {q : Addr} {ds es : List PyData}
theorem e_tupD {ds : List Dat} {xs : List PyData} (hr : A K tr ρ I ds J) (hd : Ds ds xs) (hl : xs.length ≤ 100000) : E K (tTupU tr) ρ I (.u xs) J := fun G H σ gh en io Q q => hr G H σ gh en io _ fun vs G1 H1 g1 gh1 j1 dv => by
  have r : DpAll K G1 vs xs := dva_dp (by rw [← hd.map]; exact dv)
  refine ⟨by rw [dpa_len r]; exact Nat.le_trans hl (by rw [sizeLine_eq]; decide), fun p o hp ho => ?_⟩
  have st := Stp.new (o := .frz o (.tup vs)) gh1 hp
  exact q _ _ _ (g1.trans st.gg) st.gh (Asn.pure_st st j1) ⟨p, o, vs, rfl, upd_same, ho, dp_monos st.gg _ _ r⟩
/-- a list of one's own, handed on as it is -/
theorem s_freezeL {i : Nat} (hi : ρ[i]? = some (some (.r q))) (hf : ¬ J.foot q) (hs : S K ts (ρ.set i (some (.l ds))) J k) : S K ts ρ (lJ K q ds J) k := fun G H σ D gh en io f => by
  obtain ⟨⟨gq, vs, hq, r⟩, jo⟩ := io
  have s := Stp.frz gh gq hq
  exact hs (upd G q (.lst vs)) H σ D s.gh (env_putK (z := .l ds) ⟨q, vs, rfl, upd_same, dp_monos s.gg ds vs r⟩ (env_mono s.gg en) hi) (J.st _ _ _ _ _ (fun a fa (z : a = q) => hf (z ▸ fa)) s jo) (f.mono s.gg)
/-- q.extend(e) -/
theorem s_ext {i : Nat} (he : E K te ρ (lJ K q ds J) (.l es) (lJ K q ds J)) (hi : ρ[i]? = some (some (.r q))) (hl : ds.length + es.length ≤ 100000) (hf : ¬ J.foot q) : S K (tDrop (tBM K "list" rExtend (tVar i) (tCons te tNil))) ρ (lJ K q ds J) (.nx ρ (lJ K q (ds ++ es) J)) := fun G H σ D gh en io f => by
  obtain ⟨v, hv, dv⟩ := env_get en hi
  obtain rfl : v = .ref q := dv
  have io' := io
  obtain ⟨⟨gq, vs, hq, r⟩, jo⟩ := io
  refine ⟨.ref q, hv, .inl ⟨rfl, _, .inl (.inl hq)⟩, he G H σ gh en io' _ fun w G1 H1 g1 gh1 j1 ⟨a, us, ew, ha, ru⟩ => ?_⟩
  obtain ⟨⟨gq1, vs1, hq1, r1⟩, jo1⟩ := j1
  subst ew
  have s := Stp.store (o := HO.lst (vs1 ++ us)) gh1 gq1 hq1
  refine ⟨q, a, vs1, us, rfl, rfl, hq1, ?_, ?_, ?_⟩
  · have := gh1 _ _ ha
    exact this
  · rw [dpa_len r1, dpa_len ru]
    exact Nat.le_trans hl (by rw [sizeLine_eq]; decide)
  · exact f G1 _ σ g1 s.gh (env_mono g1 en) ⟨⟨gq1, _, upd_same, dpa_app r1 ru⟩, J.st _ _ _ _ _ (fun a fa (z : a = q) => hf (z ▸ fa)) s jo1⟩
/-- {k: e for g in .. if t}, keys that are numbers, each once -/
theorem e_dcTW {wi : TI} {g : TG} {tt : TT} {tk : TE} {vs : List Nat} {n : Nat} {xs : Nat → PyData} {b : Nat → Bool} {k : Nat → Int} {e : Nat → PyData} (hl : IW K wi ρ I n xs I) (hz : n ≤ 100000) (nd : ((List.range n).map k).Nodup)
    (he : ∀ i, i < n → ∃ ρ', GW K g vs (xs i) (wipeR ρ vs) ρ' ∧ (∀ I', T K tt ρ' I' (b i) I') ∧ (b i = true → (∀ I', E K tk ρ' I' (.i (k i)) I') ∧ ∀ I', E K te ρ' I' (.d (e i)) I')) : E K (tDc wi g tt tk te vs) ρ I (.k (rowD b k e n)) I := fun G H σ gh en io Q q =>
  hl G H σ gh en io _ fun Ji G1 H1 g1 gh1 j1 wk D hD => by
    have gD : G1 D = none := gh1.free hD
    have nD : ∀ a, I.foot a → ¬ a = D := fun a fa z => by
      obtain ⟨o, ho⟩ := I.own G1 H1 a j1 fa
      rw [z, hD] at ho
      cases ho
    have st0 := Stp.newM (o := HO.dK []) gh1 hD
    refine ⟨fun i m H' => m = n - i ∧ i ≤ n ∧ ∃ G', Same G1 G' ∧ Same G' H' ∧ I.ok G' H' ∧ (kA K D (rowD b k e i)).ok G' H' ∧ Stp (· = D) G1 (upd H1 D (.dK [])) G' H', ⟨n, rfl, Nat.zero_le _, G1, Same.refl _, st0.gh, Asn.pure_st st0 j1, ⟨gD, [], upd_same, rfl, .nil⟩, Stp.refl st0.gh⟩, fun i m H' hw => ?_⟩
    obtain ⟨rfl, hi, G', a1, a2, a3, a4, a5⟩ := hw
    by_cases c : i < n
    · obtain ⟨ρ', hg, ht, hel⟩ := he i c
      refine .inr ⟨wk.go i G' H' c a1 a2, fun H2 => ∃ G2, Same G1 G2 ∧ Same G2 H2 ∧ I.ok G2 H2 ∧ (kA K D (rowD b k e (i + 1))).ok G2 H2 ∧ Stp (· = D) G1 (upd H1 D (.dK [])) G2 H2, fun H2 z => ⟨n - (i + 1), by omega, rfl, c, z⟩, fun v H2 y => ?_⟩
      obtain ⟨G2, st, dp⟩ := wk.yld i G' H' v H2 c a1 a2 y
      refine hg G2 H2 _ v _ st.gh (env_wipe (env_mono ((g1.trans a1).trans st.gg) en) vs) dp fun σ' en' hw => ⟨hw.trans (wipe_wipe σ vs), ?_⟩
      refine ht (((kA K D (rowD b k e i)).and I).and (Asn.since (· = D) G1 (upd H1 D (.dK [])))) G2 H2 σ' st.gh en' ⟨⟨Asn.pure_st st a4, Asn.pure_st st a3⟩, a5.trans (st.wide fun _ z => z.elim)⟩ _ fun G7 H7 g7 gh7 j7 => ?_
      by_cases hb : b i = true
      · rw [if_pos hb]
        obtain ⟨hky, hel⟩ := hel hb
        refine hky (((kA K D (rowD b k e i)).and I).and (Asn.since (· = D) G1 (upd H1 D (.dK [])))) G7 H7 σ' gh7 (env_mono g7 en') j7 _ fun kv G3 H3 g3 gh3 j3 dk => ?_
        refine hel _ G3 H3 σ' gh3 (env_mono (g7.trans g3) en') j3 _ fun z G4 H4 g4 gh4 j4 dy => ?_
        obtain rfl := dv_int dk
        obtain ⟨⟨⟨gq, ws, hq, r2⟩, i3⟩, st3⟩ := j4
        have hlen := kv_len r2
        have nk : (.inl (k i) : Key) ∉ (rowD b k e i).map (·.1) := fun z => by
          obtain ⟨p, hp, ep⟩ := List.mem_map.mp z
          obtain ⟨j, hj, rfl⟩ := List.mem_map.mp hp
          have hj2 := List.mem_range.mp (List.mem_filter.mp hj).1
          have ek : k j = k i := by
            have : (Sum.inl (k j) : Key) = .inl (k i) := ep
            injection this
          exact absurd (rng_inj nd (by omega) c ek) (by omega)
        have st4 := Stp.store (o := HO.dK (putK ws (.inl (k i)) z)) gh4 gq hq
        refine ⟨ws, .inl (k i), rfl, hq, ?_, G4, (((a1.trans st.gg).trans g7).trans g3).trans g4, st4.gh, I.st _ _ _ _ _ nD st4 i3, ⟨gq, _, upd_same, ?_⟩, st3.trans st4⟩
        · rw [hlen]
          have := rowD_len (b := b) (k := k) (e := e) i
          rw [sizeLine_eq]
          omega
        · rw [rowD_s, if_pos hb]
          exact (kv_new r2 dy nk).1
      · rw [if_neg hb]
        obtain ⟨⟨l7, i7⟩, s7⟩ := j7
        refine ⟨G7, (a1.trans st.gg).trans g7, gh7, i7, ?_, s7⟩
        rw [rowD_s, if_neg hb, List.append_nil]
        exact l7
    · have ei : i = n := by omega
      subst ei
      obtain ⟨gq, ws, hq, r2⟩ := a4
      have st : Stp (· = D) G' H' (upd G' D (.dK ws)) H' := Stp.frz a2 gq hq
      exact .inl ⟨wk.stop G' H' a1 a2, q _ (upd G' D (.dK ws)) H' ((g1.trans a1).trans st.gg) st.gh (I.st _ _ _ _ _ nD st a3) ⟨D, ws, rfl, upd_same, r2.1, dp_monos st.gg _ _ r2.2⟩⟩
end
end PL
/-! enumerate of a tuple; a loop's body that goes on early -/
namespace EnT
open PySem PySem.Spec PyProof.Rows L2
set_option maxHeartbeats 1000000 in
theorem enum_make (a : Addr) (its : Array Value) :
    Meets (Builtin.«enumerate.__new__» ⟨[.type "enumerate", .ref a], []⟩) (fun _ R s => s.heap.IsTuple a its ∧
      R (.ok (.ret (.ref (s.heap.push { cls := .type "tuple_iterator", data := .fields #[.ref a, .int 0 0] }).objs.size)))
        { s with heap := (s.heap.push { cls := .type "tuple_iterator", data := .fields #[.ref a, .int 0 0] }).push { cls := .type "enumerate", data := .fields #[.none, .bool false, .ref s.heap.objs.size, rawInt 0, .none, .none] } }) :=
  .of_wp fun prog w A R s hh => by
    obtain ⟨h0, g0, d0, t0, o0⟩ := s
    obtain ⟨isT, fin⟩ := hh
    have sub0 := sub_enumerate
    have goIt : ∀ {B : Around} {EE QQ : Value → Shared → Prop}, QQ (.ref h0.objs.size) ⟨h0.push { cls := .type "tuple_iterator", data := .fields #[.ref a, .int 0 0] }, g0, d0, t0, o0⟩ → wpAny (model prog w) B (pyIter (.ref a)) QQ EE ⟨h0, g0, d0, t0, o0⟩ :=
      fun q => (begins_tuple a its).iter prog w _ _ ⟨h0, g0, d0, t0, o0⟩ _ isT q
    wp_walk using goIt
    refine wpAny_stack_any fun _ => wpAny_pure ?_
    split
    · rename_i cl _ _ _ _ _
      cases (cl == Value.type "enumerate") <;> (wp_walk using goIt; exact ⟨_, rfl, fin⟩)
    · wp_walk using goIt
      exact ⟨_, rfl, fin⟩
section
variable {prog : Program} {w : World} {A : Around} {E : Value → Shared → Prop} {s : Shared}
theorem call_enumT {a : Addr} {its : Array Value} {Q : Value → Shared → Prop} (hT : s.heap.IsTuple a its)
    (k : ∀ h2, IsEnum h2 (s.heap.objs.size + 1) s.heap.objs.size 0 .none → h2.IsTupleIter s.heap.objs.size a 0 → (∀ b o, s.heap.get? b = some o → h2.get? b = some o) → Q (.ref (s.heap.objs.size + 1)) { s with heap := h2 }) :
    wpAny (model prog w) A (call (.type "enumerate") [.ref a]) Q E s := by
  refine callType_new F.called_enumerate (by decide) (F.typeCall_enumerate_1 _) (F.newCall_enumerate_1 _) (fun ob => F.args_object_init_2 ob _) F.entry_enumerate_new (enum_make a its) ⟨hT, ?_⟩
  have sz : (s.heap.push { cls := .type "tuple_iterator", data := .fields #[.ref a, .int 0 0] }).objs.size = s.heap.objs.size + 1 := Heap.size_push ..
  have en := Heap.get?_push_size (s.heap.push { cls := .type "tuple_iterator", data := .fields #[.ref a, .int 0 0] }) (o := { cls := .type "enumerate", data := .fields #[.none, .bool false, .ref s.heap.objs.size, rawInt 0, .none, .none] }) rfl
  rw [sz] at en
  show _ ∧ _
  rw [sz]
  exact ⟨⟨_, en, rfl⟩, k _ en ⟨_, Heap.get?_push_of_some _ (Heap.get?_push_size _ rfl), rfl, rfl⟩ fun b o e => Heap.get?_push_of_some _ (Heap.get?_push_of_some _ e)⟩
end
/-- the tuple at a as it stands at each turn, each item in a new pair -/
def IteT (K : PySem.W.Frag) (a : Addr) : It :=
  ⟨fun i H => ∃ (xs : List V) (x : V), SqT K H a xs ∧ xs[i]? = some x, fun i H v H' => ∃ T x, v = .ref T ∧ H T = none ∧ H' = upd H T (.tup [.int (i : Nat), x]) ∧ ∀ xs, SqT K H a xs → xs[i]? = some x, fun i H => ∃ xs : List V, SqT K H a xs ∧ xs.length = i⟩
def StE (e it a : Addr) (i : Nat) (h : Heap) : Prop := (∃ old, IsEnum h e it ((0 : Int) + (i : Int)) old) ∧ h.IsTupleIter it a i
theorem turn_enumT {P : Program} {w : World} {K : PySem.W.Frag} {elts : List Expr} {kk : Nat} {tpos : Pos} {a N : Addr} (ha : a < N) :
    Turn P w K (.Tuple elts kk tpos) (IteT K a) [N + 1, N] (N + 1) (StE (N + 1) N a) where
  mem := by simp
  obj := fun i h st b hb => by
    obtain ⟨⟨old, he⟩, ⟨o, ho, _, hd⟩⟩ := st
    have hb2 : b = N + 1 ∨ b = N := by simpa using hb
    rcases hb2 with z | z
    · rw [z]; exact ⟨_, he, fun v q => nomatch q⟩
    · rw [z]; exact ⟨o, ho, fun v q => by rw [hd] at q; cases q⟩
  keep := fun i h h' st k => let ⟨⟨old, he⟩, hi⟩ := st; ⟨⟨old, k _ (by simp) _ he⟩, hi.at fun o q => k N (by simp) o q⟩
  item := by
    intro X hP hw hK hcm i pins s σ H E I hf st hg
    subst hP hw hK
    obtain ⟨xs, x, hq, hx⟩ := hg
    obtain ⟨its, rv, p, _⟩ := I.tuple hq
    obtain ⟨u, hu, ru⟩ := rv.get hx
    obtain ⟨he, hit⟩ := st
    have hh : X.A.in1.handled = none := I.ok.hd hcm
    have D := Draws.tuple (prog := X.prog) (w := X.w) hh N a (Nat.ne_of_lt ha) its.toArray
    have W := GoesN.enumFrom (elts := elts) (x1 := kk) (pos := tpos) (A := X.A) 0 D (N + 1) (Nat.succ_ne_self N) (by
      intro z
      have z2 : N + 1 = N ∨ N + 1 = a := by simpa using z
      rcases z2 with y | y
      · exact Nat.succ_ne_self N y
      · exact absurd ha (by rw [← y]; exact Nat.not_lt.mpr (Nat.le_succ N))) (by simp)
    have hi : i < its.toArray.size := by
      have := (List.getElem?_eq_some_iff.mp hu).1
      simpa using this
    refine W.goes i s (fun v s2 => ∃ x H', Inv X pins σ H' s2 ∧ RelV x v ∧ (IteT X.K a).yld i H x H' ∧ StE (N + 1) N a (i + 1) s2.heap ∧ ∀ b ∈ [N + 1, N], H' b = none) E hi ⟨he, hit, p⟩ fun v h' tk hY st2 hk htk => ?_
    obtain ⟨T, t, y, ev, hT, ey, hTup⟩ := hY
    obtain rfl : y = u := by
      have q : its[i]? = some y := by simpa using ey
      rw [hu] at q
      exact (Option.some.inj q).symm
    obtain ⟨q1, q2, _⟩ := st2
    rw [Int.zero_add] at hTup
    have new : ObjOk X.prog X.w (upd H T (.tup [.int (i : Nat), x])) h' T (.tup [.int (i : Nat), x]) := ⟨by show 2 ≤ sizeLine; decide, [.int i t, y], .cons ⟨_, rfl⟩ (.cons ru .nil), hTup⟩
    have I1 : Inv X pins σ (upd H T (.tup [.int (i : Nat), x])) { s with heap := h', toks := tk } := I.turnedNew (t' := tk) (ch := [N + 1, N]) (fun b o hb q => hk b o hb q) hf hT new
    refine ⟨.ref T, _, I1, ev ▸ rfl, ⟨T, x, rfl, I.hok.fresh hT, rfl, fun l hl => by rw [I.tuple_inj hl hq]; exact hx⟩, ⟨q1, q2⟩, fun d hd => ?_⟩
    have hlt : d < s.heap.objs.size := by
      have e2 : d = N + 1 ∨ d = N := by simpa using hd
      obtain ⟨old, he⟩ := he
      rcases e2 with q | q
      · rw [q]; exact Heap.lt_size he
      · rw [q]; obtain ⟨_, e1, _⟩ := hit; exact Heap.lt_size e1
    rw [upd_ne (Nat.ne_of_lt (Nat.lt_of_lt_of_le hlt hT))]
    exact (hf d hd).1
  done := by
    intro X hP hw hK hcm i pins s σ H E I hf st hg
    subst hP hw hK
    obtain ⟨xs, hq, lx⟩ := hg
    obtain ⟨its, rv, p, _⟩ := I.tuple hq
    obtain ⟨he, hit⟩ := st
    have hh : X.A.in1.handled = none := I.ok.hd hcm
    have D := Draws.tuple (prog := X.prog) (w := X.w) hh N a (Nat.ne_of_lt ha) its.toArray
    have W := GoesN.enumFrom (elts := elts) (x1 := kk) (pos := tpos) (A := X.A) 0 D (N + 1) (Nat.succ_ne_self N) (by
      intro z
      have z2 : N + 1 = N ∨ N + 1 = a := by simpa using z
      rcases z2 with y | y
      · exact Nat.succ_ne_self N y
      · exact absurd ha (by rw [← y]; exact Nat.not_lt.mpr (Nat.le_succ N))) (by simp)
    have ei : i = its.toArray.size := by
      have := rv.length
      simp only [List.size_toArray]
      omega
    rw [ei] at he hit
    exact W.stops s (fun s1 => Inv X pins σ H s1) E ⟨he, hit, p⟩ fun h' tk hk _ => I.turnedL (t' := tk) (ch := [N + 1, N]) (fun b o hb q => hk b o hb q) hf
  self := fun A i s Q E st h => let ⟨⟨_, he⟩, _⟩ := st; wpAny_pyIter_enum he h
def iEnumT (K : PySem.W.Frag) (ta : TA) : TI := fun σ H R => ta σ H fun vs H1 => ∃ a xs, vs = [.ref a] ∧ SqT K H1 a xs ∧ R (IteT K a) H1
theorem pi_enumT {X : Cx} {e : Expr} {ta : TA} {p pos tpos : Pos} {elts : List Expr} {kk : Nat} (hg : Gl X "enumerate") (hm : X.mg "enumerate" = none) (ha : PA X [e] ta) (hs : starEach [e] X.env = [(false, eval e X.env)] := by rfl) :
    PI X (.Tuple elts kk tpos) (.Call (.Name "enumerate" p) [e] [] pos) (iEnumT X.K ta) := by
  refine ⟨fun pins s σ H R I h => ?_⟩
  refine Call_ (ld_blt I hg hm boot_enumerate (PyProof.Rows.callWith_type1 (thn (ha.run pos pins s σ H _ I h) fun us s1 ⟨vs, H1, I1, r1, q1⟩ => ?_) hs rfl))
  obtain ⟨a, xs, rfl, hq, q⟩ := q1
  cases r1 with
  | cons r rr =>
    cases rr
    cases r
    obtain ⟨its, rv, pT, _⟩ := I1.tuple hq
    obtain ⟨oa, hoa, _⟩ := id pT
    refine call_enumT (show s1.heap.IsTuple a its.toArray from pT) fun h2 he hit hk => wpAny_pyIter_enum he ?_
    have I2 : Inv X pins σ H1 { s1 with heap := h2 } := I1.kept (t' := s1.toks) hk
    refine ⟨s1.heap.objs.size + 1, [s1.heap.objs.size + 1, s1.heap.objs.size], _, _, H1, rfl, I2, turn_enumT (Heap.lt_size hoa), ⟨⟨.none, he⟩, hit⟩, fun b hb => ?_, q⟩
    have hle : s1.heap.objs.size ≤ b := by
      have e2 : b = s1.heap.objs.size + 1 ∨ b = s1.heap.objs.size := by simpa using hb
      rcases e2 with z | z
      · rw [z]; exact Nat.le_add_right _ _
      · rw [z]; exact Nat.le_refl _
    exact I1.fpOk hle (I1.hok.fresh hle)
end EnT
namespace PL
open PySem PySem.Spec PyProof.Rows L2
variable [Nm]
section
variable {K : PySem.W.Frag} {ρ ρ1 : Rho} {I J L N : Asn} {ta tb tc te : TE} {d e : Dat} {t u : TT} {b c : Bool} {ts us : TS} {k : Out} {tr : TA} {ds : List PyData} {x y : PyData}
theorem s_loopC {α : Type} {wi : TI} {g : TG} {n : Nat} {xs : Nat → PyData} (W : Nat → α → Prop) (P : α → Rho) (V : α → Asn) (a0 : α) (w0 : W 0 a0) (hl : IW K wi ρ I n xs (V a0)) (h0 : ρ = P a0)
    (step : ∀ i a, i < n → W i a → ∃ ρ', GJ K g (xs i) (P a) ρ' ∧ ((∃ a', W (i + 1) a' ∧ (S K ts ρ' (V a) (.nx (P a') (V a')) ∨ S K ts ρ' (V a) (.ct (P a') (V a')))) ∨ (k.ret ∧ S K ts ρ' (V a) k)))
    (done : ∀ a, W n a → S K us (P a) (V a) k) : S K (tSeq (tFor wi g ts) us) ρ I k := fun G H σ D gh en io f => by
  show tFor wi g ts { D with nx := fun σ' H' => us D σ' H' } σ H
  refine hl G H σ gh en io _ fun Ji G1 H1 g1 gh1 j1 wk => ?_
  refine ⟨fun i m σ' H' => m = n - i ∧ i ≤ n ∧ ∃ a G', W i a ∧ Same G1 G' ∧ Same G' H' ∧ EnvD K G' σ' (P a) ∧ (V a).ok G' H', ⟨n, rfl, Nat.zero_le _, a0, G1, w0, Same.refl _, gh1, h0 ▸ env_mono g1 en, j1⟩, fun i m σ' H' hw => ?_⟩
  obtain ⟨rfl, hi, a, G', wa, a1, a2, a3, a4⟩ := hw
  by_cases c : i < n
  · obtain ⟨ρ', hg, hs⟩ := step i a c wa
    rcases hs with ⟨a', wa', hs⟩ | ⟨hk, hs⟩
    · refine .inr ⟨wk.go i G' H' c a1 a2, fun σ2 H2 => ∃ G2, Same G1 G2 ∧ Same G2 H2 ∧ EnvD K G2 σ2 (P a') ∧ (V a').ok G2 H2, fun σ2 H2 ⟨G2, b1, b2, b3, b4⟩ => ⟨n - (i + 1), by omega, rfl, c, a', G2, wa', b1, b2, b3, b4⟩, fun v H2 y => ?_⟩
      obtain ⟨G2, st, dp⟩ := wk.yld i G' H' v H2 c a1 a2 y
      refine hg G2 H2 σ' v _ st.gh (env_mono st.gg a3) dp fun σ2 en2 => ?_
      rcases hs with hs | hs
      · exact hs G2 H2 σ2 _ st.gh en2 (Asn.pure_st st a4) fun G3 H3 σ3 g3 gh3 en3 j3 => ⟨G3, (a1.trans st.gg).trans g3, gh3, en3, j3⟩
      · exact hs G2 H2 σ2 _ st.gh en2 (Asn.pure_st st a4) fun G3 H3 σ3 g3 gh3 en3 j3 => ⟨G3, (a1.trans st.gg).trans g3, gh3, en3, j3⟩
    · refine .inr ⟨wk.go i G' H' c a1 a2, fun _ _ => False, fun _ _ z => z.elim, fun v H2 y => ?_⟩
      obtain ⟨G2, st, dp⟩ := wk.yld i G' H' v H2 c a1 a2 y
      exact hg G2 H2 σ' v _ st.gh (env_mono st.gg a3) dp fun σ2 en2 => hs G2 H2 σ2 _ st.gh en2 (Asn.pure_st st a4) (hk.other (D := D) rfl (((f.mono g1).mono a1).mono st.gg))
  · have e : i = n := by omega
    subst e
    exact .inl ⟨wk.stop G' H' a1 a2, done a wa G' H' σ' D a2 a3 a4 ((f.mono g1).mono a1)⟩
theorem s_loopRC {α β : Type} {wi : TI} {g : TG} {bs : List β} {f : Nat → β → PyData} {xs : Nat → PyData} {n : Nat} (W : Nat → List β → α → Prop) (P : α → Rho) (V : α → Asn) (a0 : α) (w0 : W 0 bs a0) (hl : IW K wi ρ I n xs (V a0)) (hn : n = bs.length) (hx : ∀ i z, bs[i]? = some z → xs i = f i z) (h0 : ρ = P a0)
    (step : ∀ i z rest a, W i (z :: rest) a → ∃ ρ', GJ K g (f i z) (P a) ρ' ∧ ((∃ a', W (i + 1) rest a' ∧ (S K ts ρ' (V a) (.nx (P a') (V a')) ∨ S K ts ρ' (V a) (.ct (P a') (V a')))) ∨ (k.ret ∧ S K ts ρ' (V a) k)))
    (done : ∀ a i, W i [] a → S K us (P a) (V a) k) : S K (tSeq (tFor wi g ts) us) ρ I k := by
  subst hn
  refine s_loopC (fun i a => W i (bs.drop i) a) P V a0 w0 hl h0 (fun i a hi w => ?_) fun a w => ?_
  · have e : bs.drop i = bs[i] :: bs.drop (i + 1) := List.drop_eq_getElem_cons hi
    rw [e] at w
    rw [hx i _ (List.getElem?_eq_getElem hi)]
    exact step i _ _ a w
  · rw [List.drop_of_length_le (Nat.le_refl _)] at w
    exact done a _ w
theorem s_lessC {ρ' ρ'' : Rho} (l : Less ρ' ρ'') (h : S K ts ρ I (.ct ρ' J)) : S K ts ρ I (.ct ρ'' J) := fun G H σ D gh en io f => h G H σ D gh en io fun G2 H2 σ2 g2 gh2 en2 => f G2 H2 σ2 g2 gh2 (env_less l en2)
theorem walk_eT {G : Hp} {a : Addr} {vs : List V} {xs : Nat → PyData} (s : SqT K G a vs) (r : DpAll K G vs ds) (hx : ∀ i, i < ds.length → ds[i]? = some (xs i)) : Walk K (EnT.IteT K a) ds.length (fun i => .tuple [.int (i : Nat), xs i]) G where
  go := fun i G' H hi b1 b2 => by
    have hl : i < vs.length := by rw [dpa_len r]; exact hi
    exact ⟨vs, vs[i], same_t (b1.trans b2) s, List.getElem?_eq_getElem hl⟩
  stop := fun G' H b1 b2 => ⟨vs, same_t (b1.trans b2) s, dpa_len r⟩
  yld := fun i G' H v H2 hi b1 b2 y => by
    obtain ⟨T, x, rfl, hT, rfl, hv⟩ := y
    obtain ⟨v2, h1, h2⟩ := dpa_get r (hx i hi)
    have e := hv vs (same_t (b1.trans b2) s)
    rw [h1] at e
    obtain rfl := Option.some.inj e
    have st := Stp.new (o := HO.tup [.int (i : Nat), v2]) b2 hT
    exact ⟨_, st, .tup (.inl (.inl upd_same)) (.cons (.int _) (.cons (dp_mono (b1.trans st.gg) _ _ h2) .nil))⟩
theorem iw_eT {tl : TA} (h : A K tl ρ I [.t ds] J) : IW K (EnT.iEnumT K tl) ρ I ds.length (fun i => .tuple [.int (i : Nat), at0 ds i]) J := fun G H σ gh en io R r => h G H σ gh en io _ fun vs G1 H1 g1 gh1 j1 dv => by
  obtain ⟨v, rfl, h1⟩ := dva1 dv
  cases h1 with
  | tup s rr => exact ⟨_, _, rfl, same_t gh1 s, r _ G1 H1 g1 gh1 j1 (walk_eT s rr fun i hi => at0_get hi)⟩
end
end PL
set_option maxHeartbeats 1000000
/-! dicts whose keys are tuples of numbers and texts, wherever these tuples stand -/
namespace TK
open PySem PySem.Spec PyProof.Rows L2
/-- an entry: its key, the place of the key's tuple, its value -/
abbrev Ent := List Key × Addr × V
abbrev Raw3 := List Key × Addr × Value
def atE (es : List Ent) (k : List Key) : Option V := (es.find? fun e => decide (e.1 = k)).map (·.2.2)
def putE (es : List Ent) (k : List Key) (b : Addr) (v : V) : List Ent := if (atE es k).isSome then es.map fun e => if e.1 = k then (e.1, e.2.1, v) else e else es ++ [(k, b, v)]
abbrev RelE (e : Ent) (x : Raw3) : Prop := e.1 = x.1 ∧ e.2.1 = x.2.1 ∧ RelV e.2.2 x.2.2
def Holds (P : Program) (w : World) (a : Addr) (es : List Ent) (h : Heap) : Prop := (a == sysModules) = false ∧ ∃ ys : List Raw3, Paired RelE es ys ∧
  ∃ o ds ep, h.get? a = some o ∧ o.ExactDict ∧ o.data = .dict ds ep ∧ ds.toList = ys.map (entryOfKey (tupleKind (mixKind P w))) ∧ (ys.map (·.1)).Nodup
/-- the dict at a -/
def DX (P : Program) (w : World) (a : Addr) (es : List Ent) : HO := .ext (Holds P w a es)
/-- the keys' tuples stand -/
def Keyed (K : PySem.W.Frag) (H : Hp) (es : List Ent) : Prop := ∀ e ∈ es, SqT K H e.2.1 (e.1.map kV)
theorem rel_at {es : List Ent} {ys : List Raw3} (r : Paired RelE es ys) (k : List Key) : RelO (atE es k) ((atKey ys k).map (·.2)) := by
  induction r with
  | nil => exact True.intro
  | @cons e y es ys h _ ih =>
    obtain ⟨h1, _, h3⟩ := h
    unfold atE atKey at ih ⊢
    rw [List.find?_cons, List.find?_cons, ← h1]
    by_cases c : e.1 = k
    · rw [decide_eq_true c]
      exact h3
    · rw [decide_eq_false c]
      exact ih
theorem rel_some {es : List Ent} {ys : List Raw3} (r : Paired RelE es ys) (k : List Key) : (atE es k).isSome = (atKey ys k).isSome := by
  have q := (rel_at r k).isSome_eq
  rw [Option.isSome_map] at q
  exact q
theorem rel_map {es : List Ent} {ys : List Raw3} (r : Paired RelE es ys) (k : List Key) {v : V} {u : Value} (rv : RelV v u) : Paired RelE (es.map fun e => if e.1 = k then (e.1, e.2.1, v) else e) (ys.map (putAt k u)) := by
  induction r with
  | nil => exact .nil
  | @cons e y es ys h _ ih =>
    refine .cons ?_ ih
    obtain ⟨h1, h2, h3⟩ := h
    unfold putAt
    show RelE (if e.1 = k then (e.1, e.2.1, v) else e) (if y.1 = k then (y.1, y.2.1, u) else y)
    by_cases c : e.1 = k
    · rw [if_pos c, if_pos (by rw [← h1]; exact c)]
      exact ⟨h1, h2, rv⟩
    · rw [if_neg c, if_neg (by rw [← h1]; exact c)]
      exact ⟨h1, h2, h3⟩
theorem rel_put {es : List Ent} {ys : List Raw3} (r : Paired RelE es ys) (k : List Key) (b : Addr) {v : V} {u : Value} (rv : RelV v u) : Paired RelE (putE es k b v) (storedH ys k b u) := by
  unfold putE storedH
  rw [rel_some r k]
  cases (atKey ys k).isSome
  · rw [if_neg (by decide), if_neg (by decide)]
    exact Paired.snoc r ⟨rfl, rfl, rv⟩
  · rw [if_pos rfl, if_pos rfl]
    exact rel_map r k rv
theorem keyed_put {K : PySem.W.Frag} {H : Hp} {es : List Ent} {k : List Key} {b : Addr} {v : V} (h : Keyed K H es) (hb : SqT K H b (k.map kV)) : Keyed K H (putE es k b v) := fun e he => by
  unfold putE at he
  split at he
  · obtain ⟨x, hx, rfl⟩ := List.mem_map.mp he
    split
    · exact h x hx
    · exact h x hx
  · rcases List.mem_append.mp he with he | he
    · exact h e he
    · rw [List.mem_singleton.mp he]
      exact hb
theorem holds_new {P : Program} {w : World} {a : Addr} {es : List Ent} {h : Heap} (x : Holds P w a es h) (H : Hp) : ObjOk P w H h a (DX P w a es) := by
  obtain ⟨_, _, _, o, _, _, ho, _⟩ := id x
  refine ⟨x, ⟨o, ho⟩, fun h1 h2 y k => ?_⟩
  obtain ⟨y1, ys, y2, o1, d1, p1, e1, y3⟩ := y
  exact ⟨y1, ys, y2, o1, d1, p1, k _ e1, y3⟩
section
variable {X : Cx} {pins : List (Addr × Obj)} {σ : L2.St} {H : Hp} {s : Shared} {a b : Addr} {es : List Ent} {k : List Key} {A : Around} {E : Value → Shared → Prop}
theorem key_raw (I : Inv X pins σ H s) (h : SqT X.K H b (k.map kV)) : (tupleKind (mixKind X.prog X.w)).is s.heap k b := by
  obtain ⟨vs, r, ⟨o, e, c, n, d⟩, _⟩ := I.tuple h
  exact ⟨o, vs.toArray, n, e, c, d, by simpa using items_are r⟩
theorem raw_of (I : Inv X pins σ H s) (h : H a = some (DX X.prog X.w a es)) (hk : Keyed X.K H es) : (a == sysModules) = false ∧ ∃ ys, Paired RelE es ys ∧ s.heap.DictOfH (tupleKind (mixKind X.prog X.w)) a ys := by
  obtain ⟨⟨h1, ys, r, o, ds, ep, e1, e2, e3, e4, e5⟩, _⟩ := (show ObjOk X.prog X.w H s.heap a (.ext _) from I.hok a _ h)
  refine ⟨h1, ys, r, o, ds, ep, e1, e2, e3, e4, fun y hy => ?_, e5⟩
  have mem : ∀ {es : List Ent} {ys : List Raw3}, Paired RelE es ys → ∀ y ∈ ys, ∃ e ∈ es, RelE e y := by
    intro es ys r
    induction r with
    | nil => exact fun _ h => nomatch h
    | cons h _ ih =>
      intro y hy
      rcases List.mem_cons.mp hy with rfl | hy
      · exact ⟨_, List.mem_cons_self, h⟩
      · obtain ⟨e, m, z⟩ := ih y hy
        exact ⟨e, List.mem_cons_of_mem _ m, z⟩
  obtain ⟨e, m, z1, z2, _⟩ := mem r y hy
  rw [← z1, ← z2]
  exact key_raw I (hk e m)
/-- no code object stands there -/
theorem no_code (I : Inv X pins σ H s) (h : H a = some (DX X.prog X.w a es)) (q : Str) : DX X.prog X.w a es ≠ LamX.CodeO a q := fun z => by
  obtain ⟨⟨_, ys, _, o, ds, ep, e1, _, e3, _⟩, _⟩ := (show ObjOk X.prog X.w H s.heap a (.ext _) from I.hok a _ h)
  rw [z] at h
  obtain ⟨⟨oc, vs, t, c1, c2, _⟩, _⟩ := (show ObjOk X.prog X.w H s.heap a (.ext _) from I.hok a _ h)
  rw [e1] at c1
  cases c1
  rw [e3] at c2
  cases c2
theorem get_ok {v : V} {Q : Value → Shared → Prop} (hu : A.units + 1 < cLine) (I : Inv X pins σ H s) (h : H a = some (DX X.prog X.w a es)) (hk : Keyed X.K H es) (hb : SqT X.K H b (k.map kV)) (e : atE es k = some v) (q : ∀ u s', Inv X pins σ H s' → RelV v u → Q u s') :
    wpAny (model X.prog X.w) A (getItem (.ref a) (.ref b)) Q E s := by
  obtain ⟨_, ys, r, dd⟩ := raw_of I h hk
  obtain ⟨u, hu1, ru⟩ := RelO.some_of (v := v) (o := (atKey ys k).map (·.2)) (by rw [← e]; exact rel_at r k)
  obtain ⟨p, hp, rfl⟩ := Option.map_eq_some_iff.mp hu1
  exact wpAny_getItem_heap (tupleKind_room_in1 hu) (key_raw I hb) dd hp (q _ _ (I.tok _) ru)
theorem put_inv {v : V} {u : Value} {h' : Heap} {ys : List Raw3} {t : Nat} (I : Inv X pins σ H s) (h : H a = some (DX X.prog X.w a es)) (h1 : (a == sysModules) = false) (r : Paired RelE es ys) (rv : RelV v u) (dd : h'.DictOfH (tupleKind (mixKind X.prog X.w)) a (storedH ys k b u)) (sb : Heap.SameBut a s.heap h') :
    Inv X pins σ (upd H a (DX X.prog X.w a (putE es k b v))) { s with heap := h', toks := t } := by
  obtain ⟨o, ds, ep, e1, e2, e3, e4, _, e5⟩ := dd
  exact d_write I (by rw [h]; exact True.intro) sb ⟨o, e1⟩ (holds_new ⟨h1, _, rel_put r k b rv, o, ds, ep, e1, e2, e3, e4, e5⟩ _)
theorem dset_ok {v : V} {u : Value} {Q : Unit → Shared → Prop} (hu : A.units < cLine) (I : Inv X pins σ H s) (h : H a = some (DX X.prog X.w a es)) (hz : es.length < sizeLine) (hk : Keyed X.K H es) (hb : SqT X.K H b (k.map kV)) (rv : RelV v u) (q : ∀ s', Inv X pins σ (upd H a (DX X.prog X.w a (putE es k b v))) s' → Q () s') :
    wpAny (model X.prog X.w) A (dictSet a (.ref b) u) Q E s := by
  obtain ⟨h1, ys, r, dd⟩ := raw_of I h hk
  exact wpAny_dictSet_heap (hsz := by rw [← Paired.length r]; omega) (show (tupleKind (mixKind X.prog X.w)).room A from hu) (key_raw I hb) dd fun h' d2 sb => q _ (put_inv I h h1 r rv d2 sb)
end
/-! ### readings -/
def tGet (P : Program) (w : World) (K : PySem.W.Frag) (td ty : TE) : TE := fun σ H Q => td σ H fun x H1 => ty σ H1 fun y H2 => ∃ a b es k v, x = .ref a ∧ y = .ref b ∧ H2 a = some (DX P w a es) ∧ Keyed K H2 es ∧ SqT K H2 b (k.map kV) ∧ atE es k = some v ∧ Q v H2
section
variable {X : Cx} {o i value : Expr} {pos pos' : Pos} {td ty tv : TE}
theorem pe_get (hu : X.A.units + 1 < cLine) (ho : PE X o td) (hi : PE X i ty) (hs : NoSl i) : PE X (.Subscript o i pos) (tGet X.prog X.w X.K td ty) := by
  refine ⟨fun pins s σ H Q I q0 => ?_⟩
  refine subD_of PySem.F.slot_dict_getitem.lookup hs (thn (ho.run pins s σ H _ I q0) fun u1 s1 ⟨x, H1, I1, r1, q1⟩ => thn (hi.run pins s1 σ H1 _ I1 q1) fun u2 s2 ⟨y, H2, I2, r2, a, b, es, k, v, e1, e2, h, hk, hb, e, q2⟩ => ?_)
  subst e1 e2
  obtain rfl : u1 = Value.ref a := r1
  obtain rfl : u2 = Value.ref b := r2
  obtain ⟨_, ys, _, dd⟩ := raw_of I2 h hk
  exact ⟨dd.typeIs, get_ok hu I2 h hk hb e fun u s3 I3 r3 => ⟨v, H2, I3, r3, q2⟩⟩
end
end TK
set_option maxHeartbeats 1000000
/-! {e: f for ..}, the keys being tuples -/
namespace TK
open PySem PySem.Spec PyProof.Rows L2
abbrev Blk (X : Cx) (scope : Scope) (s : Shared) (H : Hp) (C : Addr) (cl : List (Str × Addr)) (fp : List Addr) : Cx := X.blk s H scope (compEnvC scope cl C X.env) fp
end TK
/-! dicts whose keys are tuples of numbers and texts, over data -/
namespace PL
open PySem PySem.Spec PyProof.Rows L2
variable [Nm]
def kD : Key → PyData
  | .inl i => .int i
  | .inr x => .str x
abbrev ktD (k : List Key) : PyData := .tuple (k.map kD)
abbrev XE := List Key × PyData
def atX (kvs : List XE) (k : List Key) : Option PyData := (kvs.find? fun e => decide (e.1 = k)).map (·.2)
/-- a dict's entries as data -/
def XAll (K : PySem.W.Frag) (G : Hp) (es : List TK.Ent) (kvs : List XE) : Prop := es.map (·.1) = kvs.map (·.1) ∧ TK.Keyed K G es ∧ DpAll K G (es.map (·.2.2)) (kvs.map (·.2))
/-- a dict that changes no more -/
def xD (P : Program) (w : World) (K : PySem.W.Frag) (kvs : List XE) : Dat := .p fun G v => ∃ a es, v = .ref a ∧ G a = some (TK.DX P w a es) ∧ XAll K G es kvs
section
variable {P : Program} {w : World} {K : PySem.W.Frag} {G H G1 H1 G2 H2 H' : Hp} {ρ ρ1 : Rho} {I J L : Asn} {ta tb te : TE} {x y : PyData} {k : Out} {us : TS}
theorem kd_v {G : Hp} : ∀ {k : List Key} {vs : List V}, DpAll K G vs (k.map kD) → vs = k.map kV
  | [], _, h => by cases h; rfl
  | .inl i :: k, _, h => by
    cases h with
    | cons a b =>
      cases (show Dp K G _ (.int i) from a)
      rw [kd_v b]
      rfl
  | .inr i :: k, _, h => by
    cases h with
    | cons a b =>
      cases (show Dp K G _ (.str i) from a)
      rw [kd_v b]
      rfl
theorem kd_key {k : List Key} {v : V} (h : Dv K G v (.d (ktD k))) : ∃ b, v = .ref b ∧ SqT K G b (k.map kV) := by
  cases (show Dp K G v (.tuple (k.map kD)) from h) with
  | tup s r => exact ⟨_, rfl, by rw [← kd_v r]; exact s⟩
theorem keyed_go {es : List TK.Ent} (s : Same G H) (h : TK.Keyed K G es) : TK.Keyed K H es := fun e he => same_t s (h e he)
theorem x_nil {G : Hp} : XAll K G [] [] := ⟨rfl, (fun _ h => nomatch h), .nil⟩
theorem x_mono {es : List TK.Ent} {kvs : List XE} (s : Same G H) (h : XAll K G es kvs) : XAll K H es kvs := ⟨h.1, keyed_go s h.2.1, dp_monos s _ _ h.2.2⟩
theorem dx_go {a : Addr} {es : List TK.Ent} (s : Same G H) (h : G a = some (TK.DX P w a es)) : H a = some (TK.DX P w a es) := s _ _ h
theorem xd_out {v : V} {kvs : List XE} (h : Dv K G v (xD P w K kvs)) : ∃ a es, v = .ref a ∧ G a = some (TK.DX P w a es) ∧ XAll K G es kvs := by
  obtain ⟨G0, s, a, es, e, h1, h2⟩ := h
  exact ⟨a, es, e, dx_go s h1, x_mono s h2⟩
theorem x_get {k : List Key} : ∀ {es : List TK.Ent} {kvs : List XE}, XAll K G es kvs → (atX kvs k = none → TK.atE es k = none) ∧ ∀ z, atX kvs k = some z → ∃ v, TK.atE es k = some v ∧ Dp K G v z
  | [], [], _ => ⟨fun _ => rfl, fun _ h => by cases h⟩
  | [], _ :: _, h => by cases h.1
  | _ :: _, [], h => by cases h.1
  | (k1, b1, v1) :: es, (k2, x2) :: kvs, h => by
    obtain ⟨h1, h2, h3⟩ := h
    have e : k1 = k2 ∧ es.map (·.1) = kvs.map (·.1) := by simpa using h1
    obtain ⟨rfl, e2⟩ := e
    cases h3 with
    | cons r rr =>
      have ih := x_get (k := k) (es := es) (kvs := kvs) ⟨e2, fun e he => h2 e (List.mem_cons_of_mem _ he), rr⟩
      unfold atX TK.atE at ih ⊢
      by_cases c : k1 = k
      · rw [List.find?_cons_of_pos (by simpa using c), List.find?_cons_of_pos (by simpa using c)]
        refine ⟨fun z => (by cases z), fun z hz => ?_⟩
        obtain rfl : x2 = z := Option.some.inj hz
        exact ⟨v1, rfl, r⟩
      · rw [List.find?_cons_of_neg (by simpa using c), List.find?_cons_of_neg (by simpa using c)]
        exact ih
theorem x_len {es : List TK.Ent} {kvs : List XE} (h : XAll K G es kvs) : es.length = kvs.length := by
  have := congrArg List.length h.1
  simpa using this
theorem x_new {k : List Key} {b : Addr} {z : V} {zd : PyData} {es : List TK.Ent} {kvs : List XE} (h : XAll K G es kvs) (hb : SqT K G b (k.map kV)) (hz : Dp K G z zd) (hn : k ∉ kvs.map (·.1)) : XAll K G (TK.putE es k b z) (kvs ++ [(k, zd)]) := by
  have e : TK.atE es k = none := by
    unfold TK.atE
    rw [Option.map_eq_none_iff, List.find?_eq_none]
    intro e he c
    refine hn ?_
    rw [← h.1, ← of_decide_eq_true c]
    exact List.mem_map.mpr ⟨e, he, rfl⟩
  have kp := TK.keyed_put (v := z) h.2.1 hb
  unfold TK.putE at kp ⊢
  rw [e] at kp ⊢
  rw [if_neg (by decide)] at kp ⊢
  refine ⟨?_, kp, ?_⟩
  · rw [List.map_append, List.map_append, h.1]
    rfl
  · rw [List.map_append, List.map_append]
    exact dpa_app h.2.2 (.cons hz .nil)
/-! ### readings -/
theorem e_xGet {kvs : List XE} {k : List Key} (ha : E K ta ρ I (xD P w K kvs) J) (hb : E K tb ρ J (.d (ktD k)) L) (h : atX kvs k = some x) : E K (TK.tGet P w K ta tb) ρ I (.d x) L := fun G H σ gh en io Q q => ha G H σ gh en io _ fun v G1 H1 g1 gh1 j1 dv => hb G1 H1 σ gh1 (env_mono g1 en) j1 _ fun u G2 H2 g2 gh2 j2 du => by
  obtain ⟨a, es, rfl, h1, h2⟩ := xd_out (dv_mono g2 dv)
  obtain ⟨b, rfl, kb⟩ := kd_key du
  obtain ⟨z, hz, dz⟩ := (x_get (k := k) h2).2 x h
  exact ⟨a, b, es, k, z, rfl, rfl, dx_go gh2 h1, keyed_go gh2 h2.2.1, same_t gh2 kb, hz, q z G2 H2 (g1.trans g2) gh2 j2 dz⟩
/-! ### a dict of one's own -/
def xA (P : Program) (w : World) (K : PySem.W.Frag) (q : Addr) (kvs : List XE) : Asn := ⟨(· = q), fun G H => G q = none ∧ ∃ es, H q = some (TK.DX P w q es) ∧ XAll K G es kvs, fun M G H G2 H2 n s ⟨g, es, h, r⟩ => ⟨s.fr q _ (n q rfl) h g, es, s.hh q _ (n q rfl) h, x_mono s.gg r⟩, fun G H a ⟨_, es, h, _⟩ (z : a = q) => ⟨TK.DX P w q es, by rw [z]; exact h⟩⟩
theorem dx_tbl {q : Addr} {es : List TK.Ent} (ps : Array Value) : TK.DX P w q es ≠ .tbl ps := fun z => by
  unfold TK.DX at z
  cases z
end
end PL
/-! dicts of lists of one's own; a comprehension over the items of a dict of one's own -/
namespace PL
open PySem PySem.Spec PyProof.Rows L2
variable [Nm]
section
variable {K : PySem.W.Frag} {ρ ρ1 : Rho} {I J L N : Asn} {ta tb tc te : TE} {tr : TA} {x y : PyData} {k : Out} {us ts : TS} {q r : Addr} {rows : List (Int × Addr)} {D : Int → List PyData} {n : Int}
theorem e_max2 {i j : Int} (hr : A K tr ρ I [.i i, .i j] J) : E K (tCB (fun xs H Q => ∃ i j, xs = [.int i, .int j] ∧ Q (.int (if j > i then j else i)) H) tr) ρ I (.i (if i < j then j else i)) J :=
  e_cb hr fun G H vs gh jo h Q k => by
    obtain ⟨v, w, rfl, h1, h2⟩ := dva2 h
    obtain rfl := dv_int h1
    obtain rfl := dv_int h2
    exact ⟨i, j, rfl, k _ G H (Same.refl _) gh jo (.int _)⟩
end
end PL
set_option maxHeartbeats 1000000
/-! {e: f for a in s for b in t}, the keys being tuples -/
namespace TK
open PySem PySem.Spec PyProof.Rows L2
abbrev Two (ke ve ta sa tb sb : Expr) (scope : Scope) (pos : Pos) : Expr := .DictComp ke ve [⟨ta, sa, [], 0⟩, ⟨tb, sb, [], 0⟩] scope pos
theorem outer_turn (ke ve ta sa tb sb : Expr) (scope : Scope) (pos : Pos) (it acc : Value) (env : Env) : compTurn (Two ke ve ta sa tb sb scope pos) 0 it acc env = (do
      standAt sa.pos
      match ← pyNext it with
      | none => pure (.done .next)
      | some one =>
        letOwnedTupleGo ta it one
        assign ta env one
        let src ← eval sb env
        standAt sb.pos
        let src ← foldedSetIterable sb env src
        let _ ← runOwn (.compStart (Two ke ve ta sa tb sb scope pos) 1 (← holding [src] (pyIter src)) acc env) env
        again (.compLoop (Two ke ve ta sa tb sb scope pos) 0 it acc env)) := by rfl
theorem inner_turn (ke ve ta sa tb sb : Expr) (scope : Scope) (pos : Pos) (it : Value) (D : Addr) (env : Env) : compTurn (Two ke ve ta sa tb sb scope pos) 1 it (.ref D) env = (do
      standAt sb.pos
      match ← pyNext it with
      | none => pure (.done .next)
      | some one =>
        letOwnedTupleGo tb it one
        assign tb env one
        (do
          let key ← eval ke env
          let val ← holding [key] (eval ve env)
          standAt { ke.pos with endLine := ve.pos.endLine, endCol := ve.pos.endCol }
          holding [key, val] (dictSet D key val))
        again (.compLoop (Two ke ve ta sa tb sb scope pos) 1 it (.ref D) env)) := by rfl
section
variable {prog : Program} {w : World} {A : Around} {R : Result → Shared → Prop} {s : Shared} {ke ve ta sa tb sb : Expr} {scope : Scope} {pos : Pos} {it acc : Value} {env : Env}
abbrev Esc (prog : Program) (w : World) (A : Around) (env : Env) (R : Result → Shared → Prop) : Value → Shared → Prop := notedBy (model prog w) A env fun e t => R (.error e) t
theorem outer_loop (fold : ∀ x, foldedSetIterable sb env x = pure x) (I : Nat → Shared → Prop)
    (turn : ∀ n s, I n s → wpAny (model prog w) A (pyNext it) (fun r s1 => match r with
      | none => R (.ok .next) s1
      | some v => wpAny (model prog w) A (letOwnedTupleGo ta it v) (fun _ s2 => wpAny (model prog w) A (assign ta env v) (fun _ s3 =>
          wpAny (model prog w) A (eval sb env) (fun x s4 => wpAny (model prog w) A (pyIter x) (fun it1 s5 =>
            codeAny (model prog w) A (.compStart (Two ke ve ta sa tb sb scope pos) 1 it1 acc env) (fun r t => match r with
              | .ok _ => ∃ m, m < n ∧ I m t
              | .error _ => False) s5) (Esc prog w A env R) s4) (Esc prog w A env R) s3) (Esc prog w A env R) s2) (Esc prog w A env R) s1) (Esc prog w A env R) s)
    (n : Nat) (h : I n s) : codeAny (model prog w) A (.compLoop (Two ke ve ta sa tb sb scope pos) 0 it acc env) R s := by
  refine codeAny_loop rfl I (fun n s hI => ?_) n h
  show wpAny _ A ((compTurn (Two ke ve ta sa tb sb scope pos) 0 it acc env).onRaise _) _ _ s
  refine wpAny_noted ?_
  rw [outer_turn]
  refine wpAny_bind (wpAny_standAt (wpAny_bind (wpAny_mono (turn n s hI) (fun r s1 q1 => ?_) fun _ _ z => z)))
  cases r with
  | none => exact wpAny_pure q1
  | some v =>
    refine wpAny_bind (wpAny_mono q1 (fun _ s2 q2 => wpAny_bind (wpAny_mono q2 (fun _ s3 q3 => wpAny_bind (wpAny_mono q3 (fun x s4 q4 => ?_) fun _ _ z => z)) fun _ _ z => z)) fun _ _ z => z)
    refine wpAny_bind (wpAny_standAt (wpAny_bind (wpAny_of_eq (fold x) (wpAny_bind (wpAny_holding (wpAny_mono q4 (fun it1 s5 q5 => ?_) fun _ _ z => z))))))
    refine wpAny_bind (wpAny_runOwn ?_)
    rw [Around.mark_none]
    refine codeAny_mono q5 fun r t hr => ?_
    cases r with
    | ok f => first | exact wpAny_pure ⟨rfl, hr⟩ | exact wpAny_bind (wpAny_pure (wpAny_pure ⟨rfl, hr⟩))
    | error e => exact hr.elim
theorem inner_loop {D : Addr} (I : Nat → Shared → Prop)
    (turn : ∀ n s, I n s → wpAny (model prog w) A (pyNext it) (fun r s1 => match r with
      | none => R (.ok .next) s1
      | some v => wpAny (model prog w) A (letOwnedTupleGo tb it v) (fun _ s2 => wpAny (model prog w) A (assign tb env v) (fun _ s3 =>
          wpAny (model prog w) A (eval ke env) (fun a s4 => wpAny (model prog w) A (eval ve env) (fun b s5 =>
            wpAny (model prog w) A (dictSet D a b) (fun _ s6 => ∃ m, m < n ∧ I m s6) (Esc prog w A env R) s5) (Esc prog w A env R) s4) (Esc prog w A env R) s3) (Esc prog w A env R) s2) (Esc prog w A env R) s1) (Esc prog w A env R) s)
    (n : Nat) (h : I n s) : codeAny (model prog w) A (.compLoop (Two ke ve ta sa tb sb scope pos) 1 it (.ref D) env) R s := by
  refine codeAny_loop rfl I (fun n s hI => ?_) n h
  show wpAny _ A ((compTurn (Two ke ve ta sa tb sb scope pos) 1 it (.ref D) env).onRaise _) _ _ s
  refine wpAny_noted ?_
  rw [inner_turn]
  refine wpAny_bind (wpAny_standAt (wpAny_bind (wpAny_mono (turn n s hI) (fun r s1 q1 => ?_) fun _ _ z => z)))
  cases r with
  | none => exact wpAny_pure q1
  | some v =>
    refine wpAny_bind (wpAny_mono q1 (fun _ s2 q2 => wpAny_bind (wpAny_mono q2 (fun _ s3 q3 => ?_) fun _ _ z => z)) fun _ _ z => z)
    refine wpAny_bind (wpAny_bind (wpAny_mono q3 (fun a s4 q4 => wpAny_bind (wpAny_holding (wpAny_mono q4 (fun b s5 q5 => ?_) fun _ _ z => z))) fun _ _ z => z))
    exact wpAny_bind (wpAny_standAt (wpAny_holding (wpAny_mono q5 (fun _ s6 q6 => wpAny_pure ⟨rfl, q6⟩) fun _ _ z => z)))
theorem inner_start (own : codeAny (model prog w) A (.compLoop (Two ke ve ta sa tb sb scope pos) 1 it acc env) R s)
    (again_ : wpAny (model prog w) A (pyIter it) (fun it2 t => codeAny (model prog w) A (.compLoop (Two ke ve ta sa tb sb scope pos) 1 it2 acc env) R t) (Esc prog w A env R) s) :
    codeAny (model prog w) A (.compStart (Two ke ve ta sa tb sb scope pos) 1 it acc env) R s := by
  refine codeAny_of_tree ?_
  show wpAny _ _ ((compStart (Two ke ve ta sa tb sb scope pos) 1 it acc env).onRaise _) _ _ s
  refine wpAny_notedAt ?_
  unfold compStart
  show wpAny _ _ (ask >>= _) _ _ s
  refine wpAny_bind (wpAny_askSetting (wpAny_ite ?_))
  split
  · first | exact wpAny_bind (wpAny_pure (wpAny_pure ⟨rfl, own⟩)) | exact wpAny_pure ⟨rfl, own⟩
  · refine wpAny_bind (wpAny_rule ?_)
    first
      | exact wpAny_bind (wpAny_standAt (wpAny_bind (wpAny_mono again_ (fun _ _ q => wpAny_pure ⟨rfl, q⟩) fun _ _ z => z)))
      | (show wpAny _ _ (standAt sb.pos >>= _) _ _ s; exact wpAny_bind (wpAny_standAt (wpAny_bind (wpAny_mono again_ (fun _ _ q => wpAny_pure ⟨rfl, q⟩) fun _ _ z => z))))
end
/-- what is asked of {e: f for target in source for target1 in source1}; D is the new dict -/
def tDx2 (P : Program) (w : World) (K : PySem.W.Frag) (src : TI) (g : TG) (src1 : TI) (g1 : TG) (tk tv : TE) (vs vs1 : List Nat) : TE := fun σ H Q => src σ H fun J H1 => ∀ D, H1 D = none → ∃ M : Nat → Nat → Hp → Prop, (∃ n, M 0 n (upd H1 D (DX P w D []))) ∧ ∀ i n H, M i n H →
  (J.stop i H ∧ Q (.ref D) H) ∨ (J.go i H ∧ ∃ Goal : Hp → Prop, (∀ H', Goal H' → ∃ n', n' < n ∧ M (i + 1) n' H') ∧ ∀ x H', J.yld i H x H' → g x (wipe σ vs) H' fun τ H2 => wipe τ vs = wipe σ vs ∧
    src1 τ H2 fun J1 H3 => ∃ M1 : Nat → Nat → Hp → Prop, (∃ m, M1 0 m H3) ∧ ∀ j m H, M1 j m H →
      (J1.stop j H ∧ Goal H) ∨ (J1.go j H ∧ ∃ Goal1 : Hp → Prop, (∀ H', Goal1 H' → ∃ m', m' < m ∧ M1 (j + 1) m' H') ∧ ∀ x H', J1.yld j H x H' → g1 x (wipe τ vs1) H' fun υ H4 => wipe υ vs1 = wipe τ vs1 ∧
        tk υ H4 fun y H5 => tv υ H5 fun z H6 => ∃ c es k, y = .ref c ∧ H6 D = some (DX P w D es) ∧ es.length < sizeLine ∧ Keyed K H6 es ∧ SqT K H6 c (k.map kV) ∧ ((∀ q, DX P w D es ≠ LamX.CodeO D q) → Goal1 (upd H6 D (DX P w D (putE es k c z))))))
section
variable {X : Cx}
theorem dx2_core {pins : List (Addr × Obj)} {s : Shared} {σ : L2.St} {H : Hp} {Q : VK} {ke ve tgt src tgt1 src1 : Expr} {scope : Scope} {own : List (Str × Nat)} {vs1 : List Nat} {pos pos' : Pos} {ws ws1 : TI} {g g1 : TG} {tk tv : TE} {use : Option (Value → Sem Unit)} {F : Value → Shared → Prop}
    (room : X.A.units < cLine) (calm : X.calm = true) (nd : X.N.Nodup) (I : Inv X pins σ H s) (ps : PI X tgt src ws) (ok : BlkOk X.N X.env.scope scope own)
    (pg : ∀ (s : Shared) (H : Hp) (C : Addr) (cl : List (Str × Addr)) (fp : List Addr), PG (Blk X scope s H C cl fp) tgt g) (sub : ∀ i ∈ vs1, i ∈ own.map (·.2)) (ps1 : ∀ (s : Shared) (H : Hp) (C : Addr) (cl : List (Str × Addr)) (fp : List Addr), PI (Blk X scope s H C cl fp) tgt1 src1 ws1) (pg1 : ∀ (s : Shared) (H : Hp) (C : Addr) (cl : List (Str × Addr)) (fp : List Addr), PG (Blk X scope s H C cl fp) tgt1 g1)
    (pk : ∀ (s : Shared) (H : Hp) (C : Addr) (cl : List (Str × Addr)) (fp : List Addr), PE (Blk X scope s H C cl fp) ke tk) (pv : ∀ (s : Shared) (H : Hp) (C : Addr) (cl : List (Str × Addr)) (fp : List Addr), PE (Blk X scope s H C cl fp) ve tv)
    (fold : ∀ x, foldedSetIterable src X.env x = pure x) (fold1 : ∀ env x, foldedSetIterable src1 env x = pure x) (asked : tDx2 X.prog X.w X.K ws g ws1 g1 tk tv (own.map (·.2)) vs1 σ H Q)
    (after : ∀ D C t m H', Inv X pins σ H' t → Q (.ref D) H' → t.heap.Ns C m → FpOk X pins H' C → compPost (model X.prog X.w) X.A X.xe use F (.ref D) C (.ok .next) t) :
    wpAny (model X.prog X.w) X.A (comprehension (Two ke ve tgt src tgt1 src1 scope pos) scope X.env pos' newDict false (eval src X.env) use) F X.xe s := by
  have cells : ∀ y ∈ scope.names, y.2 = .free → ∃ c, X.env.cells.lookup y.1 = some c := fun y hy e => I.ok.has _ (ok.free y hy e)
  refine wpAny_comprehension_free (use := use) rfl fold (closure_ok cells) ok.kind (fun y hy e => by rw [ok.uniq y hy, e]) (thn (ps.run pins s σ H _ I asked) fun v0 t1 r1 => thn r1 fun v1 t2 r2 => ?_)
  obtain ⟨it, fp, at_, J, G2, rfl, I2, T, now2, held, rest⟩ := r2
  refine wpAny_newObj_type (newEnv_comp ?_)
  generalize eD : t2.heap.objs.size = D
  have freeD : G2 D = none := I2.hok.fresh (Nat.le_of_eq eD)
  obtain ⟨M, ⟨n0, m0⟩, turn⟩ := rest D freeD
  -- the empty dict stands
  generalize e3 : ({ t2 with heap := t2.heap.push { cls := .type "dict", data := .dict #[] } } : Shared) = t3
  have push3 : t3.heap = t2.heap.push { cls := .type "dict", data := .dict #[] } := by subst e3; rfl
  have keep3 : ∀ b o, t2.heap.get? b = some o → t3.heap.get? b = some o := fun b o e => by rw [push3]; exact Heap.get?_push_of_some _ e
  have I3 : Inv X pins σ (upd G2 D (DX X.prog X.w D [])) t3 := by
    subst e3
    refine I2.laid (t' := t2.toks) (fun _ _ e => Heap.get?_push_of_some _ e) (Nat.le_of_eq eD) (holds_new ?_ _)
    subst eD
    exact ⟨beq_eq_false_iff_ne.mpr (Ne.symm (Nat.ne_of_lt I2.big)), [], .nil, _, #[], 0, Heap.get?_push_size _ rfl, ⟨rfl, rfl, rfl⟩, rfl, rfl, List.nodup_nil⟩
  have low : ∀ b ∈ fp, b < t2.heap.objs.size := fun b hb => (T.obj _ _ now2 b hb).elim fun _ e => Heap.lt_size e.1
  have held3 : ∀ b ∈ fp, FpOk X pins (upd G2 D (DX X.prog X.w D [])) b ∧ b < t3.heap.objs.size := fun b hb => by
    have lt := low b hb
    refine ⟨⟨?_, (held b hb).2⟩, ?_⟩
    · rw [upd_ne (by subst eD; exact Nat.ne_of_lt lt)]
      exact (held b hb).1
    · rw [push3, Heap.size_push]
      exact Nat.lt_succ_of_lt lt
  have now3 : at_ 0 t3.heap := T.keep _ _ _ now2 fun b _ o e => keep3 b o e
  have I4 := block_start I3 ok nd held3
  have pg' := pg t3 (upd G2 D (DX X.prog X.w D [])) t3.heap.objs.size (cellsFrom (t3.heap.objs.size + 1) scope.names (cloFrom X.env.cells scope.names [])) fp
  have ps1' := ps1 t3 (upd G2 D (DX X.prog X.w D [])) t3.heap.objs.size (cellsFrom (t3.heap.objs.size + 1) scope.names (cloFrom X.env.cells scope.names [])) fp
  have pg1' := pg1 t3 (upd G2 D (DX X.prog X.w D [])) t3.heap.objs.size (cellsFrom (t3.heap.objs.size + 1) scope.names (cloFrom X.env.cells scope.names [])) fp
  have pk' := pk t3 (upd G2 D (DX X.prog X.w D [])) t3.heap.objs.size (cellsFrom (t3.heap.objs.size + 1) scope.names (cloFrom X.env.cells scope.names [])) fp
  have pv' := pv t3 (upd G2 D (DX X.prog X.w D [])) t3.heap.objs.size (cellsFrom (t3.heap.objs.size + 1) scope.names (cloFrom X.env.cells scope.names [])) fp
  show codeAny _ _ (.compStart (Two ke ve tgt src tgt1 src1 scope pos) 0 (.ref it) (.ref D) (compEnvC scope (cellsFrom (t3.heap.objs.size + 1) scope.names (cloFrom X.env.cells scope.names [])) t3.heap.objs.size X.env)) (compPost (model X.prog X.w) X.A X.xe use F (.ref D) t3.heap.objs.size) { t3 with heap := pushCells (t3.heap.push { cls := .type "dict", data := .dict #[] }) scope.names }
  have bare3 : ∀ b ∈ fp, (upd G2 D (DX X.prog X.w D [])) b = none := fun b hb => (held3 b hb).1.1
  unfold Blk at pg' ps1' pg1' pk' pv'
  generalize eE : compEnvC scope (cellsFrom (t3.heap.objs.size + 1) scope.names (cloFrom X.env.cells scope.names [])) t3.heap.objs.size X.env = env at I4 pg' ps1' pg1' pk' pv' ⊢
  have loc : env.locals = t3.heap.objs.size := by subst eE; rfl
  generalize eG : upd G2 D (DX X.prog X.w D []) = G3 at I3 I4 pg' ps1' pg1' pk' pv' m0 bare3 held3
  generalize e4 : ({ t3 with heap := pushCells (t3.heap.push { cls := .type "dict", data := .dict #[] }) scope.names } : Shared) = t4 at I4 ⊢
  have now4 : at_ 0 t4.heap := T.keep _ _ _ now3 fun b _ o e => by subst e4; exact pushCells_keeps _ _ _ _ (Heap.get?_push_of_some _ e)
  have foot : ∀ {τ : L2.St} {H' : Hp} {t : Shared}, Inv (X.blk t3 G3 scope env fp) [] τ H' t → (∀ b ∈ fp, H' b = none) → ∀ b ∈ fp, FpOk (X.blk t3 G3 scope env fp) [] H' b := fun {_ _ _} V h b hb => by
    have out := V.ok.exf b hb
    exact ⟨h b hb, out.1, V.ok.exfs b hb, .inl hb, fun _ _ e => out.2 _ _ e, fun p hp => nomatch (show p ∈ ([] : List (Addr × Obj)) from by simpa using hp)⟩
  refine codeAny_compStart_dict ?go (T.self X.A 0 _ _ _ now4 ?go)
  refine outer_loop (fold1 env) (fun n t => ∃ i H', Inv (X.blk t3 G3 scope env fp) [] (wipe σ (own.map (·.2))) H' t ∧ at_ i t.heap ∧ (∀ b ∈ fp, H' b = none) ∧ M i n H') (fun n t5 w5 => ?_) n0 ⟨0, G3, I4, now4, bare3, m0⟩
  obtain ⟨i, G5, I5, now5, bare5, m5⟩ := w5
  rcases turn i n G5 m5 with ⟨stop, done⟩ | ⟨go, Goal, down, step⟩
  · refine thnF (T.done (X.blk t3 G3 scope env fp) rfl rfl rfl calm i [] t5 _ G5 (fun _ _ => False) I5 (foot I5 bare5) now5 stop) fun r t6 r6 => ?_
    obtain ⟨rfl, I6⟩ := r6
    obtain ⟨m, ns, _⟩ := I6.loc
    have ns : t6.heap.Ns env.locals m := ns
    have none6 : G5 env.locals = none := I6.free
    rw [loc] at ns none6
    refine after D _ t6 m G5 (I3.call' (ch := fp) I6.os I6.base I6.hok I6.bare fun b hb => ?_) done ns (I3.fpOk (Nat.le_refl _) none6)
    obtain ⟨⟨_, q1, q2, q3, q4⟩, _⟩ := held3 b hb
    exact ⟨q3.elim (fun z => .inl z) .inr, q1, q4.1, q4.2⟩
  · refine thnF (T.item (X.blk t3 G3 scope env fp) rfl rfl rfl calm i [] t5 _ G5 (fun _ _ => False) I5 (foot I5 bare5) now5 go) fun r t6 r6 => ?_
    obtain ⟨u, rfl, r6⟩ := r6
    refine thnF r6 fun _ t7 r7 => ?_
    obtain ⟨x, G7, I7, rx, yx, now7, bare7⟩ := r7
    have I7p := I7.pinned (foot I7 bare7) (T.obj _ _ now7)
    refine thnF (pg'.run _ t7 _ G7 x u _ I7p rx (step x G7 yx)) fun _ t8 r8 => ?_
    obtain ⟨τ, G8, I8, wt, r8⟩ := r8
    -- how a turn of the first clause ends
    have fin : ∀ {υ : L2.St} {t : Shared} {H' : Hp}, Inv (X.blk t3 G3 scope env fp) ([] ++ pinsAt fp t7.heap) υ H' t → (wipe σ (own.map (·.2))).length = υ.length → (∀ (j : Nat) v, (wipe σ (own.map (·.2)))[j]? = some (some v) → υ[j]? = some (some v)) → Goal H' →
        ∃ n', n' < n ∧ ∃ i H', Inv (X.blk t3 G3 scope env fp) [] (wipe σ (own.map (·.2))) H' t ∧ at_ i t.heap ∧ (∀ b ∈ fp, H' b = none) ∧ M i n' H' := fun {υ t H'} V len less gl => by
      obtain ⟨n', lt, m'⟩ := down H' gl
      have pinned : ∀ b ∈ fp, ∀ o, t7.heap.get? b = some o → t.heap.get? b = some o ∧ H' b = none := fun b hb o e => by
        have := V.pin (b, o) (List.mem_append_right _ (List.mem_append_right _ (mem_pinsAt hb e)))
        exact ⟨this.1, this.2.1⟩
      refine ⟨n', lt, i + 1, H', V.unpinned.weak len less, T.keep _ _ _ now7 fun b hb o e => (pinned b hb o e).1, fun b hb => ?_, m'⟩
      obtain ⟨o, e, _⟩ := T.obj _ _ now7 b hb
      exact (pinned b hb o e).2
    have len8 : (wipe σ (own.map (·.2))).length = τ.length := by rw [← wt, wipe_length]
    have less8 : ∀ (j : Nat) v, (wipe σ (own.map (·.2)))[j]? = some (some v) → (wipe τ vs1)[j]? = some (some v) := fun j v e => by
      rw [← wt] at e
      obtain ⟨e1, e2⟩ := wipe_some e
      rw [wipe_out fun z => e2 (sub j z)]
      exact e1
    refine thnF (ps1'.run _ t8 τ G8 _ I8 r8) fun w1 t9 r9 => thnF r9 fun w2 t10 r10 => ?_
    obtain ⟨it1, fp1, at1, J1, G10, rfl, I10, T1, now10, held10, M1, ⟨k0, z0⟩, turn1⟩ := r10
    have foot1 : ∀ {H' : Hp}, (∀ b ∈ fp1, H' b = none) → ∀ b ∈ fp1, FpOk (X.blk t3 G3 scope env fp) ([] ++ pinsAt fp t7.heap) H' b := fun h b hb => ⟨h b hb, (held10 b hb).2⟩
    refine inner_start ?in_ (T1.self X.A 0 _ _ _ now10 ?in_)
    refine inner_loop (fun k t => ∃ j H', Inv (X.blk t3 G3 scope env fp) ([] ++ pinsAt fp t7.heap) (wipe τ vs1) H' t ∧ at1 j t.heap ∧ (∀ b ∈ fp1, H' b = none) ∧ M1 j k H') (fun k t11 w11 => ?_) k0 ⟨0, G10, I10.weak (wipe_length _ _) (fun j v e => (wipe_some e).1), now10, fun b hb => (held10 b hb).1, z0⟩
    obtain ⟨j, G11, I11, now11, bare11, m11⟩ := w11
    rcases turn1 j k G11 m11 with ⟨stop1, gl⟩ | ⟨go1, Goal1, down1, step1⟩
    · refine thnF (T1.done (X.blk t3 G3 scope env fp) rfl rfl rfl calm j _ t11 (wipe τ vs1) G11 (fun _ _ => False) I11 (foot1 bare11) now11 stop1) fun r t12 r12 => ?_
      obtain ⟨rfl, I12⟩ := r12
      exact fin I12 (len8.trans (wipe_length τ vs1).symm) less8 gl
    · refine thnF (T1.item (X.blk t3 G3 scope env fp) rfl rfl rfl calm j _ t11 (wipe τ vs1) G11 (fun _ _ => False) I11 (foot1 bare11) now11 go1) fun r t12 r12 => ?_
      obtain ⟨u1, rfl, r12⟩ := r12
      refine thnF r12 fun _ t13 r13 => ?_
      obtain ⟨x1, G13, I13, rx1, yx1, now13, bare13⟩ := r13
      have I13p := I13.pinned (foot1 bare13) (T1.obj _ _ now13)
      refine thnF (pg1'.run _ t13 (wipe τ vs1) G13 x1 u1 _ I13p rx1 (step1 x1 G13 yx1)) fun _ t14 r14 => ?_
      obtain ⟨υ, G14, I14, wu, r14⟩ := r14
      have fin1 : ∀ {t : Shared} {H' : Hp}, Inv (X.blk t3 G3 scope env fp) (([] ++ pinsAt fp t7.heap) ++ pinsAt fp1 t13.heap) υ H' t → Goal1 H' → ∃ k', k' < k ∧ ∃ j H', Inv (X.blk t3 G3 scope env fp) ([] ++ pinsAt fp t7.heap) (wipe τ vs1) H' t ∧ at1 j t.heap ∧ (∀ b ∈ fp1, H' b = none) ∧ M1 j k' H' := fun {t H'} V gl => by
        obtain ⟨k', lt, m'⟩ := down1 H' gl
        have pinned : ∀ b ∈ fp1, ∀ o, t13.heap.get? b = some o → t.heap.get? b = some o ∧ H' b = none := fun b hb o e => by
          have := V.pin (b, o) (List.mem_append_right _ (List.mem_append_right _ (mem_pinsAt hb e)))
          exact ⟨this.1, this.2.1⟩
        refine ⟨k', lt, j + 1, H', V.unpinned.weak (by rw [← wu, wipe_length]) (fun j v e => by rw [← wu] at e; exact (wipe_some e).1), T1.keep _ _ _ now13 fun b hb o e => (pinned b hb o e).1, fun b hb => ?_, m'⟩
        obtain ⟨o, e, _⟩ := T1.obj _ _ now13 b hb
        exact (pinned b hb o e).2
      refine thnF (pk'.run _ t14 υ G14 _ I14 r14) fun u3 t15 r15 => ?_
      obtain ⟨y, G15, I15, ry, r15⟩ := r15
      refine thnF (pv'.run _ t15 υ G15 _ I15 r15) fun u4 t16 r16 => ?_
      obtain ⟨z, G16, I16, rz, c, es, ky, rfl, at16, lt16, key16, kc, gl⟩ := r16
      obtain rfl : u3 = Value.ref c := ry
      exact dset_ok (X := X.blk t3 G3 scope env fp) room I16 at16 lt16 key16 kc rz fun t17 I17 => fin1 I17 (gl (no_code (X := X.blk t3 G3 scope env fp) I16 at16))
theorem pe_dx2 {ke ve tgt src tgt1 src1 : Expr} {scope : Scope} {own : List (Str × Nat)} {vs1 : List Nat} {pos : Pos} {ws ws1 : TI} {g g1 : TG} {tk tv : TE} (room : X.A.units < cLine) (calm : X.calm = true) (nd : X.N.Nodup) (ps : PI X tgt src ws) (ok : BlkOk X.N X.env.scope scope own) (sub : ∀ i ∈ vs1, i ∈ own.map (·.2))
    (pg : ∀ (s : Shared) (H : Hp) (C : Addr) (cl : List (Str × Addr)) (fp : List Addr), PG (Blk X scope s H C cl fp) tgt g) (ps1 : ∀ (s : Shared) (H : Hp) (C : Addr) (cl : List (Str × Addr)) (fp : List Addr), PI (Blk X scope s H C cl fp) tgt1 src1 ws1) (pg1 : ∀ (s : Shared) (H : Hp) (C : Addr) (cl : List (Str × Addr)) (fp : List Addr), PG (Blk X scope s H C cl fp) tgt1 g1)
    (pk : ∀ (s : Shared) (H : Hp) (C : Addr) (cl : List (Str × Addr)) (fp : List Addr), PE (Blk X scope s H C cl fp) ke tk) (pv : ∀ (s : Shared) (H : Hp) (C : Addr) (cl : List (Str × Addr)) (fp : List Addr), PE (Blk X scope s H C cl fp) ve tv)
    (fold : ∀ x, foldedSetIterable src X.env x = pure x := by intro _; rfl) (fold1 : ∀ env x, foldedSetIterable src1 env x = pure x := by intro _ _; rfl) : PE X (Two ke ve tgt src tgt1 src1 scope pos) (tDx2 X.prog X.w X.K ws g ws1 g1 tk tv (own.map (·.2)) vs1) := by
  refine ⟨fun pins s σ H Q I q => ?_⟩
  rw [arm_eval_DictComp]
  refine dx2_core room calm nd I ps ok pg sub ps1 pg1 pk pv fold fold1 q fun D C t m H' iv done ns fo => ⟨m, ns, fun h2 sb => ⟨.ref D, H', ?_, rfl, done⟩⟩
  exact iv.turned (t' := t.toks) (fun b o hb e => (sb.2 b hb).trans e) fo.1 fo.2.1 fo.2.2.2.1 fo.2.2.2.2.1 fo.2.2.2.2.2
end
end TK
/-! {e: f for a in s for b in t}, the keys being tuples, over data -/
namespace PL
open PySem PySem.Spec PyProof.Rows L2
variable [Nm]
section
variable {P : Program} {w : World} {K : PySem.W.Frag} {ρ : Rho} {I J L : Asn} {te : TE}
def cutX (f : Nat → List XE) (i : Nat) : List XE := (List.range i).flatMap f
theorem cutX_s {f : Nat → List XE} {i : Nat} : cutX f (i + 1) = cutX f i ++ f i := by
  unfold cutX
  rw [List.range_succ, List.flatMap_append, List.flatMap_cons, List.flatMap_nil, List.append_nil]
theorem cutX_le {f : Nat → List XE} {i n : Nat} (h : i ≤ n) : ∃ t, cutX f n = cutX f i ++ t := by
  induction n with
  | zero =>
    obtain rfl : i = 0 := by omega
    exact ⟨[], by rw [List.append_nil]⟩
  | succ n ih =>
    by_cases c : i = n + 1
    · subst c
      exact ⟨[], by rw [List.append_nil]⟩
    · obtain ⟨t, e⟩ := ih (by omega)
      exact ⟨t ++ f n, by rw [cutX_s, e, List.append_assoc]⟩
/-- the key that comes next is not there yet -/
theorem cutX_new {f : Nat → List XE} {i j n : Nat} {k : List Key} {y : PyData} (hi : i < n) (nd : ((cutX f n).map (·.1)).Nodup) (h : (f i)[j]? = some (k, y)) : k ∉ (cutX f i ++ (f i).take j).map (·.1) := fun z => by
  obtain ⟨t, e⟩ := cutX_le (f := f) (i := i + 1) (n := n) hi
  have hj := (List.getElem?_eq_some_iff.mp h).1
  have e2 : f i = (f i).take j ++ (k, y) :: (f i).drop (j + 1) := by
    have h2 := (List.getElem?_eq_some_iff.mp h).2
    rw [← h2]
    exact (List.take_append_drop j (f i)).symm.trans (by rw [List.drop_eq_getElem_cons hj])
  rw [e, cutX_s, e2, List.append_assoc, List.append_assoc] at nd
  rw [show cutX f i ++ ((f i).take j ++ ((k, y) :: (f i).drop (j + 1) ++ t)) = (cutX f i ++ (f i).take j) ++ ((k, y) :: (f i).drop (j + 1) ++ t) by rw [List.append_assoc], List.map_append, List.nodup_append] at nd
  exact nd.2.2 k z k (by rw [List.cons_append, List.map_cons]; exact List.mem_cons_self) rfl
theorem e_dx2W {wi wi1 : TI} {g g1 : TG} {tk : TE} {vs vs1 : List Nat} {n : Nat} {xs : Nat → PyData} {ys : Nat → Nat → PyData} {f : Nat → List XE} (hl : IW K wi ρ I n xs I) (hz : (cutX f n).length ≤ 100000) (nd : ((cutX f n).map (·.1)).Nodup)
    (he : ∀ i, i < n → ∃ ρ1, GW K g vs (xs i) (wipeR ρ vs) ρ1 ∧ (∀ I', IW K wi1 ρ1 I' (f i).length (ys i) I') ∧ ∀ j k y, (f i)[j]? = some (k, y) → ∃ ρ2, GW K g1 vs1 (ys i j) (wipeR ρ1 vs1) ρ2 ∧ (∀ I', E K tk ρ2 I' (.d (ktD k)) I') ∧ ∀ I', E K te ρ2 I' (.d y) I') :
    E K (TK.tDx2 P w K wi g wi1 g1 tk te vs vs1) ρ I (xD P w K (cutX f n)) I := fun G H σ gh en io Q q =>
  hl G H σ gh en io _ fun Ji G1 H1 g1' gh1 j1 wk D hD => by
    have nD : ∀ a, I.foot a → ¬ a = D := fun a fa z => by
      obtain ⟨o, ho⟩ := I.own G1 H1 a j1 fa
      rw [z, hD] at ho
      cases ho
    have st0 := Stp.newM (o := TK.DX P w D []) gh1 hD
    refine ⟨fun i m H' => m = n - i ∧ i ≤ n ∧ ∃ G', Same G1 G' ∧ Same G' H' ∧ I.ok G' H' ∧ (xA P w K D (cutX f i)).ok G' H' ∧ Stp (· = D) G1 (upd H1 D (TK.DX P w D [])) G' H', ⟨n, rfl, Nat.zero_le _, G1, Same.refl _, st0.gh, Asn.pure_st st0 j1, ⟨gh1.free hD, [], upd_same, x_nil⟩, Stp.refl st0.gh⟩, fun i m H' hw => ?_⟩
    obtain ⟨rfl, hi, G', a1, a2, a3, a4, a5⟩ := hw
    by_cases c : i < n
    · obtain ⟨ρ1, hg, hi1, hin⟩ := he i c
      refine .inr ⟨wk.go i G' H' c a1 a2, fun H2 => ∃ G2, Same G1 G2 ∧ Same G2 H2 ∧ I.ok G2 H2 ∧ (xA P w K D (cutX f (i + 1))).ok G2 H2 ∧ Stp (· = D) G1 (upd H1 D (TK.DX P w D [])) G2 H2, fun H2 z => ⟨n - (i + 1), by omega, rfl, c, z⟩, fun v H2 yv => ?_⟩
      obtain ⟨G2, st, dp⟩ := wk.yld i G' H' v H2 c a1 a2 yv
      refine hg G2 H2 _ v _ st.gh (env_wipe (env_mono ((g1'.trans a1).trans st.gg) en) vs) dp fun σ' en' hw => ⟨hw.trans (wipe_wipe σ vs), ?_⟩
      refine hi1 (((xA P w K D (cutX f i)).and I).and (Asn.since (· = D) G1 (upd H1 D (TK.DX P w D [])))) G2 H2 σ' st.gh en' ⟨⟨Asn.pure_st st a4, Asn.pure_st st a3⟩, a5.trans (st.wide fun _ z => z.elim)⟩ _ fun J1 G4 H4 g4 gh4 j4 wk1 => ?_
      obtain ⟨⟨l4, i4⟩, s4⟩ := j4
      have bb : Same G1 G4 := (a1.trans st.gg).trans g4
      refine ⟨fun j k H' => k = (f i).length - j ∧ j ≤ (f i).length ∧ ∃ G', Same G4 G' ∧ Same G' H' ∧ I.ok G' H' ∧ (xA P w K D (cutX f i ++ (f i).take j)).ok G' H' ∧ Stp (· = D) G1 (upd H1 D (TK.DX P w D [])) G' H', ⟨(f i).length, rfl, Nat.zero_le _, G4, Same.refl _, gh4, i4, by rw [List.take_zero, List.append_nil]; exact l4, s4⟩, fun j k H' hw2 => ?_⟩
      obtain ⟨rfl, hj, G5, c1, c2, c3, c4, c5⟩ := hw2
      by_cases d : j < (f i).length
      · obtain ⟨ky, y, hky⟩ : ∃ k y, (f i)[j]? = some (k, y) := ⟨_, _, List.getElem?_eq_getElem d⟩
        obtain ⟨ρ2, hg2, e1, e2⟩ := hin j ky y hky
        refine .inr ⟨wk1.go j G5 H' d c1 c2, fun H2 => ∃ G2, Same G4 G2 ∧ Same G2 H2 ∧ I.ok G2 H2 ∧ (xA P w K D (cutX f i ++ (f i).take (j + 1))).ok G2 H2 ∧ Stp (· = D) G1 (upd H1 D (TK.DX P w D [])) G2 H2, fun H2 z => ⟨(f i).length - (j + 1), by omega, rfl, d, z⟩, fun v2 H6 y2 => ?_⟩
        obtain ⟨G6, st6, dp6⟩ := wk1.yld j G5 H' v2 H6 d c1 c2 y2
        refine hg2 G6 H6 _ v2 _ st6.gh (env_wipe (env_mono ((g4.trans c1).trans st6.gg) en') vs1) dp6 fun σ3 en3 hw3 => ⟨hw3.trans (wipe_wipe σ' vs1), ?_⟩
        refine e1 (((xA P w K D (cutX f i ++ (f i).take j)).and I).and (Asn.since (· = D) G1 (upd H1 D (TK.DX P w D [])))) G6 H6 _ st6.gh en3 ⟨⟨Asn.pure_st st6 c4, Asn.pure_st st6 c3⟩, c5.trans (st6.wide fun _ z => z.elim)⟩ _ fun kv G7 H7 g7 gh7 j7 dk => ?_
        refine e2 _ G7 H7 _ gh7 (env_mono g7 en3) j7 _ fun z G8 H8 g8 gh8 j8 dz => ?_
        obtain ⟨b, rfl, kb⟩ := kd_key (dv_mono g8 dk)
        obtain ⟨⟨⟨gq, es, hq, r⟩, i3⟩, st3⟩ := j8
        have hlen := x_len r
        have hle : (cutX f i ++ (f i).take j).length ≤ 100000 := by
          obtain ⟨t, e⟩ := cutX_le (f := f) (i := i + 1) (n := n) c
          have := congrArg List.length e
          rw [cutX_s, List.length_append, List.length_append] at this
          rw [List.length_append, List.length_take]
          omega
        have st4 : (∀ q, TK.DX P w D es ≠ LamX.CodeO D q) → Stp (· = D) G8 H8 G8 (upd H8 D (TK.DX P w D (TK.putE es ky b z))) := fun nc => Stp.store gh8 gq hq ⟨fun ps => dx_tbl ps, nc⟩
        refine ⟨b, es, ky, rfl, hq, Nat.lt_of_lt_of_le (by omega : es.length < 100001) (by rw [sizeLine_eq]; decide), keyed_go gh8 r.2.1, same_t gh8 kb, fun nc => ⟨G8, ((c1.trans st6.gg).trans g7).trans g8, (st4 nc).gh, I.st _ _ _ _ _ nD (st4 nc) i3, ⟨gq, _, upd_same, ?_⟩, st3.trans (st4 nc)⟩⟩
        rw [List.take_add_one, hky, ← List.append_assoc]
        exact x_new r kb dz (cutX_new c nd hky)
      · obtain rfl : j = (f i).length := by omega
        rw [List.take_length, ← cutX_s] at c4
        exact .inl ⟨wk1.stop G5 H' c1 c2, G5, bb.trans c1, c2, c3, c4, c5⟩
    · obtain rfl : i = n := by omega
      obtain ⟨gq, es, hq, r⟩ := a4
      have st : Stp (· = D) G' H' (upd G' D (TK.DX P w D es)) H' := Stp.frz a2 gq hq fun ps => dx_tbl ps
      exact .inl ⟨wk.stop G' H' a1 a2, q _ (upd G' D (TK.DX P w D es)) H' ((g1'.trans a1).trans st.gg) st.gh (I.st _ _ _ _ _ nD st a3) ⟨_, Same.refl _, D, es, rfl, upd_same, x_mono st.gg r⟩⟩
end
end PL
/-! objects of the program's own classes, over data -/
namespace OB
open PySem PySem.Spec PyProof.Rows L2
theorem pe_fldK {X : Cx} {K : PySem.W.Frag} {e : Expr} {ta : TE} {f : Str} {pos : Pos} (hK : X.K = K) (he : PE X e ta) (hb : attributeBase e f X.env (eval e X.env) = eval e X.env) : PE X (.Attribute e f pos) (tFld K ta f) := hK ▸ pe_fld he hb
theorem pe_getX {X : Cx} {P : Program} {w : World} {K : PySem.W.Frag} {o i : Expr} {pos : Pos} {td ty : TE} (hP : X.prog = P) (hw : X.w = w) (hK : X.K = K) (hu : X.A.units + 1 < cLine) (ho : PE X o td) (hi : PE X i ty) (hs : NoSl i) : PE X (.Subscript o i pos) (TK.tGet P w K td ty) := hP ▸ hw ▸ hK ▸ TK.pe_get hu ho hi hs
end OB
namespace PL
open PySem PySem.Spec PyProof.Rows L2
variable [Nm]
abbrev FS := List (Str × Dat)
/-- an object's fields as data -/
def FsAll (K : PySem.W.Frag) (G : Hp) (us : List (Str × V)) (fs : FS) : Prop := us.map (·.1) = fs.map (·.1) ∧ DvAll K G (us.map (·.2)) (fs.map (·.2))
def setFd (f : Str) (d : Dat) : FS → FS
  | [] => [(f, d)]
  | (g, e) :: r => if g = f then (g, d) :: r else (g, e) :: setFd f d r
/-- an object that changes no more -/
def oD (K : PySem.W.Frag) (C : Addr) (fs : FS) : Dat := .p fun G v => ∃ a dx us, v = .ref a ∧ G a = some (.ins C dx us) ∧ FsAll K G us fs
section
variable {K : PySem.W.Frag} {G H G1 H1 G2 H2 H' : Hp} {ρ ρ1 : Rho} {I J L : Asn} {ta tb te : TE} {tr : TA} {d : Dat} {k : Out} {us : TS} {C a q : Addr} {fs : FS} {f m : Str}
theorem fs_nil {G : Hp} : FsAll K G [] [] := ⟨rfl, trivial⟩
theorem fs_mono {us : List (Str × V)} (s : Same G H) (h : FsAll K G us fs) : FsAll K H us fs := ⟨h.1, dva_mono s h.2⟩
theorem fs_len {us : List (Str × V)} (h : FsAll K G us fs) : us.length = fs.length := by
  have := congrArg List.length h.1
  simpa using this
theorem fs_look : ∀ {us : List (Str × V)} {fs : FS}, FsAll K G us fs → (fs.lookup f = none → us.lookup f = none) ∧ ∀ d, fs.lookup f = some d → ∃ v, us.lookup f = some v ∧ Dv K G v d
  | [], [], _ => ⟨fun _ => rfl, fun _ h => by cases h⟩
  | [], _ :: _, h => by cases h.1
  | _ :: _, [], h => by cases h.1
  | (g, v) :: us, (g2, e) :: fs, h => by
    obtain ⟨h1, h2⟩ := h
    have e1 : g = g2 ∧ us.map (·.1) = fs.map (·.1) := by simpa using h1
    obtain ⟨rfl, e2⟩ := e1
    have ih := fs_look (us := us) (fs := fs) ⟨e2, h2.2⟩
    rw [List.lookup_cons, List.lookup_cons]
    by_cases c : f = g
    · have cc : (f == g) = true := by simpa using c
      rw [cc]
      refine ⟨fun z => (by cases z), fun z hz => ?_⟩
      obtain rfl : e = z := Option.some.inj hz
      exact ⟨v, rfl, h2.1⟩
    · have cc : (f == g) = false := by simpa using c
      rw [cc]
      exact ih
theorem fs_put {v : V} (hv : Dv K G v d) : ∀ {us : List (Str × V)} {fs : FS}, FsAll K G us fs → FsAll K G (putF f v us) (setFd f d fs)
  | [], [], _ => ⟨rfl, hv, trivial⟩
  | [], _ :: _, h => by cases h.1
  | _ :: _, [], h => by cases h.1
  | (g, w) :: us, (g2, e) :: fs, h => by
    obtain ⟨h1, h2⟩ := h
    have e1 : g = g2 ∧ us.map (·.1) = fs.map (·.1) := by simpa using h1
    obtain ⟨rfl, e2⟩ := e1
    have ih := fs_put hv (us := us) (fs := fs) ⟨e2, h2.2⟩
    show FsAll K G (if g = f then _ else _) (if g = f then _ else _)
    by_cases c : g = f
    · rw [if_pos c, if_pos c]
      exact ⟨by simpa using e2, hv, h2.2⟩
    · rw [if_neg c, if_neg c]
      exact ⟨by simpa using ih.1, h2.1, ih.2⟩
theorem od_out {v : V} (h : Dv K G v (oD K C fs)) : ∃ a dx us, v = .ref a ∧ G a = some (.ins C dx us) ∧ FsAll K G us fs := by
  obtain ⟨G0, s, a, dx, us, e, h1, h2⟩ := h
  exact ⟨a, dx, us, e, s _ _ h1, fs_mono s h2⟩
/-! ### objects that stand -/
theorem e_fld (c : Cls K C) (n : NoAttr K C f) (ha : E K ta ρ I (oD K C fs) J) (h : fs.lookup f = some d) : E K (tFld K ta f) ρ I d J := fun G H σ gh en io Q q => ha G H σ gh en io _ fun v G1 H1 g1 gh1 j1 dv => by
  obtain ⟨a, dx, us, rfl, h1, h2⟩ := od_out dv
  obtain ⟨z, hz, dz⟩ := (fs_look h2).2 d h
  exact ⟨a, C, dx, us, z, rfl, gh1 _ _ h1, c, n, hz, q z G1 H1 g1 gh1 j1 dz⟩
theorem e_meth {T : Tbs} {R : List Dat → Dat → Prop} {X : XK} {ds : List Dat} [hT : HasT T L] (ha : E K ta ρ I (oD K C fs) J) (hr : A K tr ρ J ds L) (hm : fs.lookup m = none) (h : R (oD K C fs :: ds) d) : E K (tMeth C m (spT K T R) [] X ta tr) ρ I d L := fun G H σ gh en io Q q => ha G H σ gh en io _ fun v G1 H1 g1 gh1 j1 dv => by
  obtain ⟨a, dx, us, e, h1, h2⟩ := od_out dv
  refine ⟨a, dx, us, e, gh1 _ _ h1, (fs_look h2).1 hm, hr G1 H1 σ gh1 (env_mono g1 en) j1 _ fun vs G2 H2 g2 gh2 j2 dvs => ?_⟩
  rw [List.append_nil]
  exact ⟨G2, oD K C fs :: ds, d, gh2, ⟨dv_mono g2 dv, dvs⟩, h, hT.get _ _ j2, fun v G3 H3 s dv3 => q v G3 H3 ((g1.trans g2).trans s.gg) s.gh (Asn.pure_st s j2) dv3⟩
theorem dva3 {K : PySem.W.Frag} {G : Hp} {vs : List V} {d e f : Dat} (h : DvAll K G vs [d, e, f]) : ∃ u v w, vs = [u, v, w] ∧ Dv K G u d ∧ Dv K G v e ∧ Dv K G w f := by
  match vs, h with
  | [u, v, w], ⟨h1, h2, h3, _⟩ => exact ⟨u, v, w, rfl, h1, h2, h3⟩
theorem s_par3 {i j l : Nat} {e f : Dat} (h : A K tr ρ I [d, e, f] J) : S K (tPar3 i j l tr) ρ I (.nx (((ρ.set i (some d)).set j (some e)).set l (some f)) J) := fun G H σ D gh en io k => h G H σ gh en io _ fun vs G1 H1 g1 gh1 j1 dv => by
  obtain ⟨u, v, w, rfl, h1, h2, h3⟩ := dva3 dv
  exact ⟨u, v, w, rfl, k G1 H1 _ g1 gh1 (env_set h3 (env_set h2 (env_set h1 (env_mono g1 en)))) j1⟩
theorem e_newK : E K tDNewK ρ I (.k []) I := fun G H σ gh en io Q k => fun p hp => by
  have st := Stp.new (o := HO.dK []) gh hp
  exact k _ _ _ st.gg st.gh (Asn.pure_st st io) ⟨p, [], rfl, upd_same, rfl, .nil⟩
theorem e_listT {ds : List PyData} (hr : A K tr ρ I [.t ds] J) : E K (tCB (fun xs H Q => ∃ p ys, xs = [.ref p] ∧ (SqL K H p ys ∨ SqT K H p ys) ∧ ∀ l, H l = none → Q (.ref l) (upd H l (.lst ys))) tr) ρ I (.d (.list ds)) J :=
  e_cb hr fun G H vs gh jo h Q k => by
    obtain ⟨v, rfl, h1⟩ := dva1 h
    cases h1 with
    | tup s r =>
      rename_i ws
      refine ⟨_, _, rfl, .inr (same_t gh s), fun l hl => ?_⟩
      have st := Stp.new (o := HO.lst ws) gh hl
      exact k _ _ _ st.gg st.gh (Asn.pure_st st jo) (.lst (.inl (.inl upd_same)) (dp_monos st.gg _ _ r))
theorem e_sortD0 (hr : A K tr ρ I [.k []] J) : E K (tCB (fun xs H Q => ∃ (a : Addr) (kvs : List (Key × V)) (ks : List Int), xs = [.ref a] ∧ Rd H a (.dK kvs) ∧ kvs.map (·.1) = ks.map Sum.inl ∧ ks.length < 64 ∧ ∀ (ys : List Int) (p : Addr), ys.Perm ks → ys.Pairwise (· ≤ ·) → H p = none → Q (.ref p) (upd H p (.lst (ys.map V.int)))) tr) ρ I (.d (.list [])) J :=
  e_cb hr fun G H vs gh jo h Q k => by
    obtain ⟨v, rfl, a, ws, rfl, h1, h2⟩ := dva1 h
    obtain rfl : ws = [] := by
      have := h2.1
      simpa using this
    refine ⟨a, [], [], rfl, .inl (gh _ _ h1), rfl, by decide, fun ys p pm _ hp => ?_⟩
    obtain rfl : ys = [] := pm.eq_nil
    have st := Stp.new (o := HO.lst []) gh hp
    exact k _ _ _ st.gg st.gh (Asn.pure_st st jo) (.lst (.inl (.inl upd_same)) .nil)
theorem look_set {f g : Str} {d : Dat} : ∀ {fs : FS}, (setFd f d fs).lookup g = if g = f then some d else fs.lookup g
  | [] => by
    show List.lookup g [(f, d)] = _
    rw [List.lookup_cons]
    by_cases c : g = f
    · rw [if_pos c, show (g == f) = true by simpa using c]
    · rw [if_neg c, show (g == f) = false by simpa using c]
  | (k, e) :: r => by
    show List.lookup g (if k = f then (k, d) :: r else (k, e) :: setFd f d r) = _
    by_cases c : k = f
    · subst c
      rw [if_pos rfl, List.lookup_cons, List.lookup_cons]
      by_cases q : g = k
      · rw [if_pos q, show (g == k) = true by simpa using q]
      · rw [if_neg q, show (g == k) = false by simpa using q]
    · rw [if_neg c, List.lookup_cons, List.lookup_cons, look_set]
      by_cases q : g = k
      · subst q
        rw [show (g == g) = true by simp]
        exact (if_neg c).symm
      · rw [show (g == k) = false by simpa using q]
theorem len_set {f : Str} {d : Dat} : ∀ {fs : FS}, (setFd f d fs).length ≤ fs.length + 1
  | [] => Nat.le_refl _
  | (k, e) :: r => by
    show (if k = f then (k, d) :: r else (k, e) :: setFd f d r).length ≤ _
    by_cases c : k = f
    · rw [if_pos c]
      simp
    · rw [if_neg c]
      have := len_set (f := f) (d := d) (fs := r)
      simpa using this
theorem lt_set {f : Str} {d : Dat} {n : Nat} (h : fs.length < n) : (setFd f d fs).length < n + 1 := Nat.lt_of_le_of_lt len_set (Nat.succ_lt_succ h)
theorem s_for0S {wi : TI} {g : TG} {ts : TS} {n : Nat} {xs : Nat → PyData} (hl : IW K wi ρ I n xs I) (h0 : n = 0) (h : S K us ρ I k) : S K (tSeq (tFor wi g ts) us) ρ I k := s_loop (α := Unit) (W := fun _ _ => True) (P := fun _ => ρ) (V := fun _ => I) () trivial hl rfl (fun i a hi => absurd hi (by omega)) (fun _ _ => h)
theorem s_for0 {wi : TI} {g : TG} {ts : TS} {n : Nat} {xs : Nat → PyData} (hl : IW K wi ρ I n xs I) (h0 : n = 0) : S K (tFor wi g ts) ρ I (.nx ρ I) := fun G H σ D gh en io f => s_for0S hl h0 (us := tNext) s_next G H σ D gh en io f
theorem s_while0 {tc : TT} {ts : TS} (h : T K tc ρ I false I) : S K (tWhile tc ts) ρ I (.nx ρ I) := s_while (α := Unit) (fun _ => True) (fun _ => ρ) (fun _ => I) (fun _ => 0) () trivial fun _ _ => .inr ⟨h, rfl⟩
theorem s_for1S {wi : TI} {g : TG} {ts : TS} {n : Nat} {xs : Nat → PyData} (hl : IW K wi ρ I n xs I) (h1 : n = 1) (hb : ∃ ρ', GJ K g (xs 0) ρ ρ' ∧ S K ts ρ' I (.nx ρ1 J)) (h : S K us ρ1 J k) : S K (tSeq (tFor wi g ts) us) ρ I k := by
  subst h1
  refine s_loop (α := Bool) (W := fun i a => a = decide (1 ≤ i)) (P := fun a => if a = true then ρ1 else ρ) (V := fun a => if a = true then J else I) false rfl hl rfl (fun i a hi hw => ?_) (fun a hw => ?_)
  · obtain rfl : i = 0 := by omega
    obtain rfl : a = false := hw
    obtain ⟨ρ', hg, hs⟩ := hb
    exact ⟨ρ', hg, .inl ⟨true, rfl, hs⟩⟩
  · obtain rfl : a = true := hw
    exact h
theorem s_swap {A B : Asn} {ts : TS} (h : S K ts ρ (B.and (A.and I)) k) : S K ts ρ (A.and (B.and I)) k := fun G H σ D gh en io f => h G H σ D gh en ⟨io.2.1, io.1, io.2.2⟩ f
theorem s_swapN {A B : Asn} {ts : TS} (h : S K ts ρ J (.nx ρ1 (A.and (B.and I)))) : S K ts ρ J (.nx ρ1 (B.and (A.and I))) := fun G H σ D gh en io f => h G H σ D gh en io fun G2 H2 σ2 g2 gh2 en2 j2 => f G2 H2 σ2 g2 gh2 en2 ⟨j2.2.1, j2.1, j2.2.2⟩
theorem iw_c {wi : TI} {n : Nat} {xs ys : Nat → PyData} (h : IW K wi ρ I n ys J) (e : ∀ i, i < n → xs i = ys i) : IW K wi ρ I n xs J := fun G H σ gh en io R r => h G H σ gh en io R fun Ji G2 H2 g2 gh2 j2 wk => r Ji G2 H2 g2 gh2 j2 ⟨wk.go, wk.stop, fun i G3 H3 v H4 hi a1 a2 y => by rw [e i hi]; exact wk.yld i G3 H3 v H4 hi a1 a2 y⟩
theorem e_min2 {i j : Int} (hr : A K tr ρ I [.i i, .i j] J) : E K (tCB (fun xs H Q => ∃ i j, xs = [.int i, .int j] ∧ Q (.int (if j < i then j else i)) H) tr) ρ I (.i (if j < i then j else i)) J :=
  e_cb hr fun G H vs gh jo h Q k => by
    obtain ⟨v, w, rfl, h1, h2⟩ := dva2 h
    obtain rfl := dv_int h1
    obtain rfl := dv_int h2
    exact ⟨i, j, rfl, k _ G H (Same.refl _) gh jo (.int _)⟩
/-! ### an object of one's own -/
def oA (K : PySem.W.Frag) (C q : Addr) (fs : FS) : Asn := ⟨(· = q), fun G H => G q = none ∧ ∃ dx us, H q = some (.ins C dx us) ∧ FsAll K G us fs, fun M G H G2 H2 n s ⟨g, dx, us, h, r⟩ => ⟨s.fr q _ (n q rfl) h g, dx, us, s.hh q _ (n q rfl) h, fs_mono s.gg r⟩, fun G H a ⟨_, dx, us, h, _⟩ (z : a = q) => ⟨.ins C dx us, by rw [z]; exact h⟩⟩
abbrev oJ (K : PySem.W.Frag) (C q : Addr) (fs : FS) (J : Asn) : Asn := (oA K C q fs).and J
instance {T : Tbs} [h : HasT T J] : HasT T (oJ K C q fs J) := ⟨fun G H z => h.get G H z.2⟩
theorem e_fldO {i : Nat} (c : Cls K C) (n : NoAttr K C f) (hi : ρ[i]? = some (some (.r q))) (h : fs.lookup f = some d) : E K (tFld K (tVar i) f) ρ (oJ K C q fs J) d (oJ K C q fs J) := fun G H σ gh en io Q k => by
  obtain ⟨o, ho, rfl⟩ := env_get en hi
  obtain ⟨⟨gq, dx, us, hq, r⟩, jo⟩ := io
  obtain ⟨z, hz, dz⟩ := (fs_look r).2 d h
  exact ⟨.ref q, ho, q, C, dx, us, z, rfl, hq, c, n, hz, k z G H (Same.refl _) gh ⟨⟨gq, dx, us, hq, r⟩, jo⟩ dz⟩
theorem s_fld {i : Nat} (c : Cls K C) (n : NoAttr K C f) (he : E K te ρ (oJ K C q fs J) d (oJ K C q fs L)) (hi : ρ[i]? = some (some (.r q))) (hl : fs.length < 1000) (hf : ¬ L.foot q) : S K (sFld K (tVar i) te f) ρ (oJ K C q fs J) (.nx ρ (oJ K C q (setFd f d fs) L)) := fun G H σ D gh en io k => he G H σ gh en io _ fun v G1 H1 g1 gh1 j1 dv => by
  obtain ⟨o, ho, rfl⟩ := env_get en hi
  obtain ⟨⟨gq, dx, us, hq, r⟩, jo⟩ := j1
  have st := Stp.store (o := HO.ins C dx (putF f v us)) gh1 gq hq
  have hlen := fs_len r
  exact ⟨.ref q, ho, q, C, dx, us, rfl, hq, c, n, by omega, k G1 _ σ (g1.trans st.gg) st.gh (env_mono (g1.trans st.gg) en) ⟨⟨gq, dx, _, upd_same, fs_put dv r⟩, L.st _ _ _ _ _ (fun a fa (z : a = q) => hf (z ▸ fa)) st jo⟩⟩
/-! ### __init__ and C(..) -/
/-- __init__: R ds fs: of the arguments ds the new object gets the fields fs -/
def spI (K : PySem.W.Frag) (T : Tbs) (C : Addr) (R : List Dat → FS → Prop) : Sp := fun vs H Q _ => ∃ G a dx us ds fs, Same G H ∧ vs = .ref a :: us ∧ DvAll K G us ds ∧ R ds fs ∧ TabsIn T G H ∧ G a = none ∧ H a = some (.ins C dx []) ∧ ∀ G2 H2, Stp (· = a) G H G2 H2 → (oA K C a fs).ok G2 H2 → Q .non H2
theorem body_I {T : Tbs} {R : List Dat → FS → Prop} {N : List Str} {vs : List V} {H : Hp} {Q : VK} {X : XK} {ts : TS} (hb : ∀ ds fs, R ds fs → ∀ a I, HasT T I → ¬ I.foot a → ∃ ρ', S K ts (some (.r a) :: (ds.map some ++ List.replicate (N.length - (ds.length + 1)) none)) (oJ K C a [] I) (.nx ρ' (oJ K C a fs I))) (h : spI K T C R vs H Q X) :
    ts { nx := fun _ H' => Q .non H', rt := Q } (L2.start N vs) H := by
  obtain ⟨G, a, dx, us, ds, fs, gh, rfl, dvs, r, tb, ga, ha, q⟩ := h
  obtain ⟨ρ', hs⟩ := hb ds fs r a ((Asn.since (· = a) G H).and (Asn.tab T)) inferInstance (fun z => z.elim (fun z => z.1 rfl) fun z => z)
  refine hs G H _ _ gh ?_ ⟨⟨ga, dx, [], ha, fs_nil⟩, Stp.refl gh, tb⟩ fun G2 H2 σ2 g2 gh2 en2 j2 => ?_
  · unfold L2.start
    rw [List.length_cons, dva_len dvs]
    exact env_start (vs := .ref a :: us) (ds := .r a :: ds) _ ⟨rfl, dvs⟩
  · exact q G2 H2 j2.2.1 j2.1
theorem len_I {T : Tbs} {R : List Dat → FS → Prop} {n : Nat} (hl : ∀ ds fs, R ds fs → ds.length = n) {vs : List V} {H : Hp} {Q : VK} {X : XK} (h : spI K T C R vs H Q X) : vs.length = n + 1 := by
  obtain ⟨G, a, dx, us, ds, fs, gh, rfl, dvs, r, _⟩ := h
  rw [List.length_cons, dva_len dvs, hl ds fs r]
/-- the new object, never to change -/
theorem e_make {T : Tbs} {R : List Dat → FS → Prop} {X : XK} {ds : List Dat} [hT : HasT T J] (hr : A K tr ρ I ds J) (h : R ds fs) : E K (tMake C (spI K T C R) [] X tr) ρ I (oD K C fs) J := fun G H σ gh en io Q k => hr G H σ gh en io _ fun vs G1 H1 g1 gh1 j1 dvs => fun x dx nx nd ne => by
  rw [List.append_nil]
  have s1 := Stp.newM (o := HO.own x) gh1 nd
  have nx1 : (upd H1 dx (HO.own x)) x = none := by
    rw [upd_ne (Ne.symm ne)]
    exact nx
  have s2 := Stp.newM (o := HO.ins C dx []) s1.gh nx1
  have s12 := s1.trans s2
  have nf : ¬ J.foot x := fun z => by
    obtain ⟨o, ho⟩ := J.own G1 H1 x j1 z
    rw [nx] at ho
    cases ho
  refine ⟨G1, x, dx, vs, ds, fs, s12.gh, rfl, dvs, h, (hT.get _ _ j1).go s12, gh1.free nx, upd_same, fun G2 H2 s3 ok => ⟨rfl, ?_⟩⟩
  obtain ⟨gx, dx2, us, hx, r⟩ := ok
  have s4 := Stp.frz s3.gh gx hx
  have j2 : J.ok _ H2 := J.st _ _ _ _ _ (fun a fa (z : a = x) => nf (z ▸ fa)) s4 (J.st _ _ _ _ _ (fun a fa (z : a = x) => nf (z ▸ fa)) s3 (Asn.pure_st s12 j1))
  exact k _ _ H2 ((g1.trans s3.gg).trans s4.gg) s4.gh j2 ⟨_, Same.refl _, x, dx2, us, rfl, upd_same, fs_mono s4.gg r⟩
end
end PL
/-! zip of an empty tuple and a list -/
namespace ZE
open PySem PySem.Spec PyProof.Rows L2
section
variable {prog : Program} {w : World} {A : Around} {E : Value → Shared → Prop} {s : Shared} {z TI TO i1 l1 : Addr} {i2 : Value} {k : Nat} {xs : Array Value}
theorem stop0 {Q : PySem.Fin → Shared → Prop} (hh : A.handled = none) (n1 : i1 ≠ z) (n2 : l1 ≠ z) (hz : IsZip s.heap z TI TO .none) (hTI : IsPair s.heap TI (.ref i1) i2) (h1 : s.heap.IsTupleIter i1 l1 k) (hl : s.heap.IsTuple l1 xs) (he : xs[k]? = none)
    (hE : ∀ h' e, (∀ c o, c ≠ z ∧ c ≠ i1 → s.heap.get? c = some o → h'.get? c = some o) → (∃ o, h'.get? e = some o ∧ o.cls = .type "StopIteration") → E (.ref e) { s with heap := h' }) :
    wpAny (model prog w) A (Builtin.«zip.__next__» ⟨[.ref z], []⟩) Q E s := by
  show wpAny _ A (do let _ ← field (.ref z) 2; _) Q E s
  refine wpAny_bind (wpAny_field hz rfl (x := Value.bool false) rfl (wpAny_bind (m := field (.ref z) 3) (wpAny_field hz rfl (x := Value.ref TI) rfl (wpAny_bind (wpAny_seqItems hTI rfl (wpAny_bind (m := Builtin.SmallTypes.ownedTupleIsFree (.ref z)) ?_)))))); unfold Builtin.SmallTypes.ownedTupleIsFree; refine wpAny_bind (wpAny_field hz rfl (x := Value.none) rfl (wpAny_pure ?_)); simp only [if_true]
  refine wpAny_bind (wpAny_rule (wpAny_bind (wpAny_field hz rfl (x := Value.ref TO) rfl (wpAny_bind (wpAny_setField_rec hz (by simp) fun h₁ hz₁ hs₁ => wpAny_bind ?_))))); simp only [List.zipIdx_cons, List.zipIdx_nil, List.forIn_cons, List.forIn_nil]
  refine wpAny_bind (wpAny_bind (wpAny_onRaise (wpAny_bind (m := Builtin.SmallTypes.nextOf (.ref i1)) (RZ.nextOf_tuple_end hh (h1.extBut hs₁.extBut n1) (hl.extBut hs₁.extBut n2) he fun h₂ e hs₂ he => ?_))))
  obtain ⟨oe, hoe, hce⟩ := he
  have hz₂ : IsZip h₂ z TI TO .ellipsis := hs₂ _ _ (Ne.symm n1) hz₁
  have ne : e ≠ z := fun x => by
    subst x
    rw [hz₂] at hoe
    obtain rfl := Option.some.inj hoe
    simp at hce
  exact wpAny_setField_rec hz₂ (by simp) fun h₃ _ hs₃ => hE h₃ e (fun c o cc x => hs₃.extBut _ _ cc.1 (hs₂ _ _ cc.2 (hs₁.extBut _ _ cc.1 x))) ⟨oe, hs₃.extBut _ _ ne hoe, hce⟩
theorem next0 {Q : Option Value → Shared → Prop} (hh : A.handled = none) (n1 : i1 ≠ z) (n2 : l1 ≠ z) (hz : IsZip s.heap z TI TO .none) (hTI : IsPair s.heap TI (.ref i1) i2) (h1 : s.heap.IsTupleIter i1 l1 k) (hl : s.heap.IsTuple l1 xs) (he : xs[k]? = none)
    (hQ : ∀ h', (∀ c o, c ≠ z ∧ c ≠ i1 → s.heap.get? c = some o → h'.get? c = some o) → Q none { s with heap := h' }) : wpAny (model prog w) A (pyNext (.ref z)) Q E s := by
  have hT : s.TypeIs (.ref z) "zip" := ⟨_, hz, rfl⟩
  unfold pyNext
  refine wpAny_bind (wpAny_attempt (wpAny_callSpecial?_slot (name := Str.ofString "__next__") hT F.slot_zip_next (wpAny_call_entry F.slot_zip_next hT F.entry_zip_next (stop0 hh n1 n2 hz hTI h1 hl he fun h' e hk ⟨o, ho, hc⟩ => ?_) (F.args_zip_next_1 _))))
  exact wpAny_bind (wpAny_isInstance (T := "StopIteration") (b := true) ⟨o, ho, hc⟩ isSubtype_stop (wpAny_pure (hQ _ hk)))
/-- the heap once zip(tuple, list) is made -/
def made (h : Heap) (a b : Addr) : Heap :=
  let n := h.objs.size
  ((((h.push { cls := .type "tuple_iterator", data := .fields #[.ref a, .int 0 0] }).push { cls := .type "list_iterator", data := .fields #[.ref b, .int 0 0] }).push { cls := .type "tuple", data := .seq #[.ref n, .ref (n + 1)] }).push { cls := .type "tuple", data := .seq #[.none, .none] }).push
    { cls := .type "zip", data := .fields #[.none, .bool false, .bool false, .ref (n + 2), .ref (n + 3)] }
theorem new_meets (a b : Addr) (xs ys : Array Value) :
    Meets (Builtin.«zip.__new__» ⟨[.type "zip", .ref a, .ref b], []⟩) (fun _ R s => s.heap.IsTuple a xs ∧ s.heap.IsList b ys ∧ R (.ok (.ret (.ref (s.heap.objs.size + 4)))) { s with heap := made s.heap a b }) :=
  .of_wp fun prog w A R s h => by
    obtain ⟨hp, g, d, tk, os⟩ := s
    obtain ⟨ha, hb, h⟩ := h
    have sub := sub_zip
    have hA : Heap.IsTuple (Shared.heap ⟨hp, g, d, tk, os⟩) a xs := ha
    have hB : Heap.IsList (Shared.heap ⟨hp.push { cls := .type "tuple_iterator", data := .fields #[.ref a, .int 0 0] }, g, d, tk, os⟩) b ys := Heap.IsList.push hb _
    unfold made at h
    simp only [] at h
    wp_walk using wpAny_pyIter_tuple hA, wpAny_pyIter_list hB
    refine ⟨_, rfl, ?_⟩
    simp only [Heap.size_push]
    exact h
theorem push_at {h : Heap} {o : Obj} {n : Nat} (e : h.objs.size = n) (f : o.cls ≠ .none ∨ True := .inr trivial) (g : (h.push o).get? h.objs.size = some o) : (h.push o).get? n = some o := by
  subst e
  exact g
theorem call0 {a b : Addr} {ys : Array Value} {Q : Value → Shared → Prop} (ha : s.heap.IsTuple a xs) (hb : s.heap.IsList b ys)
    (h : ∀ h', IsZip h' (s.heap.objs.size + 4) (s.heap.objs.size + 2) (s.heap.objs.size + 3) .none → IsPair h' (s.heap.objs.size + 2) (.ref s.heap.objs.size) (.ref (s.heap.objs.size + 1)) → h'.IsTupleIter s.heap.objs.size a 0 →
      (∀ c o, s.heap.get? c = some o → h'.get? c = some o) → Q (.ref (s.heap.objs.size + 4)) { s with heap := h' }) :
    wpAny (model prog w) A (call (.type "zip") [.ref a, .ref b]) Q E s := by
  refine callType_new F.called_zip (by decide) (F.typeCall_zip_2 _ _) (F.newCall_zip_2 _ _) (fun obj => F.args_object_init_3 obj _ _) F.entry_zip_new (new_meets a b xs ys) ⟨ha, hb, ?_⟩
  have up : ∀ c o, s.heap.get? c = some o → (made s.heap a b).get? c = some o := fun c o e => by
    unfold made
    exact Heap.get?_push_of_some _ (Heap.get?_push_of_some _ (Heap.get?_push_of_some _ (Heap.get?_push_of_some _ (Heap.get?_push_of_some _ e))))
  have z5 : IsZip (made s.heap a b) (s.heap.objs.size + 4) (s.heap.objs.size + 2) (s.heap.objs.size + 3) .none := by
    unfold made
    exact push_at (by simp only [Heap.size_push]) (.inr trivial) (Heap.get?_push_size _ rfl)
  have z3 : IsPair (made s.heap a b) (s.heap.objs.size + 2) (.ref s.heap.objs.size) (.ref (s.heap.objs.size + 1)) := by
    unfold made
    exact Heap.get?_push_of_some _ (Heap.get?_push_of_some _ (push_at (by simp only [Heap.size_push]) (.inr trivial) (Heap.get?_push_size _ rfl)))
  have z1 : (made s.heap a b).get? s.heap.objs.size = some { cls := .type "tuple_iterator", data := .fields #[.ref a, .int 0 0] } := by
    unfold made
    exact Heap.get?_push_of_some _ (Heap.get?_push_of_some _ (Heap.get?_push_of_some _ (Heap.get?_push_of_some _ (Heap.get?_push_size _ rfl))))
  exact ⟨⟨_, z5, rfl⟩, h _ z5 z3 ⟨_, z1, rfl, rfl⟩ up⟩
end
/-- nothing comes -/
def It0 (K : PySem.W.Frag) (a : Addr) : It := ⟨fun _ _ => False, fun _ _ _ _ => False, fun _ H => SqT K H a []⟩
theorem turn0 {P : Program} {w : World} {K : PySem.W.Frag} {tg : Expr} {z TI TO i1 a : Addr} (n1 : i1 ≠ z) (n2 : a ≠ z) : Turn P w K tg (It0 K a) [z, TI, i1] z (fun _ h => IsZip h z TI TO .none ∧ (∃ v, IsPair h TI (.ref i1) v) ∧ h.IsTupleIter i1 a 0) where
  mem := List.mem_cons_self
  obj := fun i h ⟨hz, ⟨v, hT⟩, o, e, _, d⟩ c hc => by
    rcases List.mem_cons.mp hc with q | hc
    · subst q
      exact ⟨_, hz, fun v q => nomatch q⟩
    · rcases List.mem_cons.mp hc with q | hc
      · subst q
        exact ⟨_, hT, fun v q => nomatch q⟩
      · rw [List.mem_singleton.mp hc]
        exact ⟨o, e, fun v q => by rw [d] at q; cases q⟩
  keep := fun i h h' ⟨hz, ⟨v, hT⟩, h1⟩ k => ⟨k z (by simp) _ hz, ⟨v, k TI (by simp) _ hT⟩, h1.at fun o q => k i1 (by simp) o q⟩
  item := fun X _ _ _ _ i pins s σ H E I hf st hg => hg.elim
  done := by
    intro X hP hw hK hc i pins s σ H E I hf st hg
    subst hP hw hK
    obtain ⟨hz, ⟨v, hT⟩, h1⟩ := st
    obtain ⟨its, rv, p, _⟩ := I.tuple hg
    have l := rv.length
    exact next0 (I.ok.hd hc) n1 n2 hz hT h1 p (by have : its = [] := List.length_eq_zero_iff.mp l.symm; subst this; rfl) fun h' hk => ⟨rfl, I.turnedL (t' := s.toks) (ch := [z, TI, i1]) (fun c o hb q => hk c o ⟨fun y => hb (by simp [y]), fun y => hb (by simp [y])⟩ q) hf⟩
  self := fun A i s Q E st h => wpAny_pyIter_zip st.1 h
def iZip0 (K : PySem.W.Frag) (ta : TA) : TI := fun σ H R => ta σ H fun vs H1 => ∃ a b ys, vs = [.ref a, .ref b] ∧ SqT K H1 a [] ∧ SqL K H1 b ys ∧ R (It0 K a) H1
theorem pi_zip0 {X : Cx} {e e2 : Expr} {ta : TA} {p pos : Pos} {tg : Expr} (hg : Gl X "zip") (hm : X.mg "zip" = none) (ha : PA X [e, e2] ta)
    (hs : starEach [e, e2] X.env = (false, eval e X.env) :: starEach [e2] X.env := by rfl) (hpl : (backTo pos (starEach [e2] X.env)).any (·.1) = false := by rfl) : PI X tg (.Call (.Name "zip" p) [e, e2] [] pos) (iZip0 X.K ta) := by
  refine ⟨fun pins s σ H R I h => ?_⟩
  refine Call_ (ld_blt I hg hm PyProof.Rows.boot_zip (PyProof.Rows.callWith_type1 (thn (ha.run pos pins s σ H _ I h) fun us s1 ⟨vs, H1, I1, r1, q0⟩ => ?_) hs hpl))
  obtain ⟨a, b, ys, ex, qa, qb, q⟩ := q0
  subst ex
  cases r1 with
  | cons r rr =>
    cases rr with
    | cons r' rr =>
      cases rr
      cases r
      cases r'
      obtain ⟨its, rv, pa, _⟩ := I1.tuple qa
      obtain ⟨its2, rv2, pb, _⟩ := I1.list qb
      obtain ⟨o1, ho1, _⟩ := id pa
      have lt := Heap.lt_size ho1
      have le : ∀ c, c ∈ [s1.heap.objs.size + 4, s1.heap.objs.size + 2, s1.heap.objs.size] → s1.heap.objs.size ≤ c := fun c hc => by
        rcases List.mem_cons.mp hc with z | hc
        · rw [z]; exact Nat.le_add_right _ _
        · rcases List.mem_cons.mp hc with z | hc
          · rw [z]; exact Nat.le_add_right _ _
          · rw [List.mem_singleton.mp hc]; exact Nat.le_refl _
      refine call0 (show s1.heap.IsTuple a its.toArray from pa) pb.isList fun h' hz hT h1 hk => wpAny_pyIter_zip hz ?_
      exact ⟨s1.heap.objs.size + 4, [s1.heap.objs.size + 4, s1.heap.objs.size + 2, s1.heap.objs.size], _, _, H1, rfl, I1.kept (t' := s1.toks) hk, turn0 (TO := s1.heap.objs.size + 3) (Nat.ne_of_lt (Nat.lt_of_lt_of_le (Nat.lt_succ_self _) (Nat.add_le_add_left (by decide : 1 ≤ 4) _))) (Nat.ne_of_lt (Nat.lt_of_lt_of_le lt (Nat.le_add_right _ _))), ⟨hz, ⟨_, hT⟩, h1⟩, fun c hc => I1.fpOk (le c hc) (I1.hok.fresh (le c hc)), q⟩
end ZE
namespace PL
open PySem PySem.Spec PyProof.Rows L2
variable [Nm]
section
variable {K : PySem.W.Frag} {ρ : Rho} {I J : Asn} {tr : TA} {ys : List PyData}
theorem iw_z0 {xs : Nat → PyData} (h : A K tr ρ I [.t [], .d (.list ys)] J) : IW K (ZE.iZip0 K tr) ρ I 0 xs J := fun G H σ gh en io R r => h G H σ gh en io _ fun vs G1 H1 g1 gh1 j1 dvs => by
  obtain ⟨v1, v2, rfl, d1, d2⟩ := dva2 dvs
  cases d1 with
  | tup s1 r1 =>
    cases d2 with
    | lst s2 r2 =>
      cases r1
      refine ⟨_, _, _, rfl, same_t gh1 s1, gh1.seq s2, r _ G1 H1 g1 gh1 j1 ⟨fun i G2 H hi => absurd hi (by omega), fun G2 H a1 a2 => same_t (a1.trans a2) s1, fun i G2 H v H2 hi => absurd hi (by omega)⟩⟩
end
end PL
/-! Free flights: heights after whole numbers of ticks, where they change their side, where they are greatest. Plain Lean. -/
namespace FR
/-- twice the height after n ticks -/
def hgt (a v u n : Int) : Int := 2 * a + 2 * n * v + n * (n + 1) * u
theorem hgt_succ (a v u n : Int) : hgt a v u (n + 1) = hgt a v u n + 2 * (v + (n + 1) * u) := by
  unfold hgt
  grind
theorem hgt_neg (a v u n : Int) : hgt (-a) (-v) (-u) n = -hgt a v u n := by
  unfold hgt
  grind
theorem hgt_zero (a v u : Int) : hgt a v u 0 = 2 * a := by
  unfold hgt
  grind
def turnM (s b : Int) : Int := if 0 < (s - 1) / b then (s - 1) / b else 0
def lastM (v u m : Int) : Int := if u ≤ 0 then m else if turnM (-v) u < m then turnM (-v) u else m
theorem turn_nn (s b : Int) : 0 ≤ turnM s b := by
  unfold turnM
  split <;> omega
/-- up to the turn the speed is below 0 -/
theorem turn_in {s b k : Int} (hb : 0 < b) (h1 : 1 ≤ k) (h2 : k ≤ turnM s b) : k * b < s := by
  unfold turnM at h2
  split at h2
  · have e : k * b ≤ (s - 1) / b * b := Int.mul_le_mul_of_nonneg_right h2 (by omega)
    have := Int.ediv_mul_le (s - 1) (show b ≠ 0 by omega)
    omega
  · omega
/-- beyond it not -/
theorem turn_out {s b k : Int} (hb : 0 < b) (h1 : 1 ≤ k) (h2 : turnM s b < k) : s ≤ k * b := by
  have lt : (s - 1) / b < k := by
    unfold turnM at h2
    split at h2 <;> omega
  have := Int.lt_mul_of_ediv_lt hb lt
  omega
/-- the height that is 0 or below stays so up to l -/
def Sgn (a v u l : Int) : Prop := ∀ k, 1 ≤ k → k < l → hgt a v u k ≤ 0 → hgt a v u (k + 1) ≤ 0
theorem sgn_le {a v u l i : Int} (h : Sgn a v u l) (hi : 1 ≤ i) : ∀ (n : Nat), i + n ≤ l → hgt a v u i ≤ 0 → hgt a v u (i + n) ≤ 0
  | 0, _, h0 => by simpa using h0
  | n + 1, hn, h0 => by
    have ih := sgn_le h hi n (by omega) h0
    have := h (i + n) (by omega) (by omega) ih
    rw [show i + ((n + 1 : Nat) : Int) = i + n + 1 by omega]
    exact this
theorem sgn_lt {a v u l i j : Int} (h : Sgn a v u l) (hi : 1 ≤ i) (hij : i ≤ j) (hj : j ≤ l) (h0 : hgt a v u i ≤ 0) : hgt a v u j ≤ 0 := by
  have := sgn_le h hi (j - i).toNat (by omega) h0
  rw [show i + ((j - i).toNat : Int) = j by omega] at this
  exact this
theorem sgn_fall {a v u l : Int} (ha : 0 < a) (hu : u ≤ 0) : Sgn a v u l := fun k h1 _ h0 => by
  rw [hgt_succ]
  have e : k * (2 * v + (k + 1) * u) < 0 := by
    unfold hgt at h0
    have : k * (2 * v + (k + 1) * u) = 2 * k * v + k * (k + 1) * u := by grind
    omega
  have e1 : 2 * v + (k + 1) * u < 0 := by
    by_cases c : 2 * v + (k + 1) * u < 0
    · exact c
    · have := Int.mul_nonneg (show 0 ≤ k by omega) (show 0 ≤ 2 * v + (k + 1) * u by omega)
      omega
  have e2 : (k + 1) * u ≤ 0 := Int.mul_nonpos_of_nonneg_of_nonpos (by omega) hu
  omega
theorem sgn_turn {a v u l : Int} (hu : 0 < u) (hl : l ≤ turnM (-v) u) : Sgn a v u l := fun k h1 h2 h0 => by
  rw [hgt_succ]
  have := turn_in hu (show 1 ≤ k + 1 by omega) (show k + 1 ≤ turnM (-v) u by omega)
  omega
theorem sgn_last {a v u m : Int} (ha : 0 < a) : Sgn a v u (lastM v u m) := by
  unfold lastM
  split
  · rename_i h
    exact sgn_fall ha h
  · rename_i h
    refine sgn_turn (by omega) ?_
    split <;> omega
theorem last_le {v u m : Int} : lastM v u m ≤ m := by
  unfold lastM
  split
  · omega
  · split <;> omega
theorem last_nn {v u m : Int} (h : 0 ≤ m) : 0 ≤ lastM v u m := by
  have := turn_nn (-v) u
  unfold lastM
  split
  · omega
  · split <;> omega
/-- from the turn on the heights do not fall -/
theorem rise {a v u : Int} (hu : 0 < u) : ∀ (n : Nat), hgt a v u (turnM (-v) u) ≤ hgt a v u (turnM (-v) u + n)
  | 0 => by simp
  | n + 1 => by
    have ih := rise (a := a) (v := v) hu n
    have t := turn_nn (-v) u
    rw [show turnM (-v) u + ((n + 1 : Nat) : Int) = turnM (-v) u + n + 1 by omega, hgt_succ]
    have := turn_out (s := -v) hu (show 1 ≤ turnM (-v) u + n + 1 by omega) (by omega)
    omega
/-- no crossing up to m where there is none at the last tick that falls -/
theorem no_cross {a v u m : Int} (ha : 0 < a) (h : 0 < hgt a v u (lastM v u m)) : ∀ k, 1 ≤ k → k ≤ m → 0 < hgt a v u k := fun k h1 h2 => by
  by_cases c : k ≤ lastM v u m
  · by_cases d : 0 < hgt a v u k
    · exact d
    · have := sgn_lt (sgn_last (m := m) ha) h1 c (Int.le_refl _) (by omega)
      omega
  · have hu : 0 < u := by
      by_cases d : 0 < u
      · exact d
      · unfold lastM at c
        rw [if_pos (by omega)] at c
        omega
    have e : lastM v u m = turnM (-v) u := by
      unfold lastM at c ⊢
      rw [if_neg (by omega)] at c ⊢
      split at c
      · rw [if_pos (by assumption)]
      · omega
    rw [e] at h c
    have := rise (a := a) (v := v) hu (k - turnM (-v) u).toNat
    rw [show turnM (-v) u + ((k - turnM (-v) u).toNat : Int) = k by omega] at this
    omega
/-- the first of the ticks 1 .. m whose height is 0 or below -/
def crossF (a v u : Int) (m : Nat) : Option Nat := ((List.range m).find? fun (k : Nat) => decide (hgt a v u ((k : Int) + 1) ≤ 0)).map (· + 1)
theorem cross_none {a v u : Int} {m : Nat} (h : ∀ k : Int, 1 ≤ k → k ≤ m → 0 < hgt a v u k) : crossF a v u m = none := by
  unfold crossF
  rw [Option.map_eq_none_iff, List.find?_eq_none]
  intro k hk c
  have := h ((k : Int) + 1) (by omega) (by have := List.mem_range.mp hk; omega)
  have := of_decide_eq_true c
  omega
theorem cross_some {a v u r : Int} {m : Nat} (h1 : 1 ≤ r) (h2 : r ≤ m) (h0 : hgt a v u r ≤ 0) (h : ∀ k : Int, 1 ≤ k → k < r → 0 < hgt a v u k) : crossF a v u m = some r.toNat := by
  unfold crossF
  have e : (List.range m).find? (fun (k : Nat) => decide (hgt a v u ((k : Int) + 1) ≤ 0)) = some (r.toNat - 1) := by
    rw [List.find?_range_eq_some]
    refine ⟨?_, List.mem_range.mpr (by omega), fun j hj => ?_⟩
    · rw [show (((r.toNat - 1 : Nat) : Int) + 1) = r by omega]
      exact decide_eq_true h0
    · have := h ((j : Int) + 1) (by omega) (by omega)
      rw [Bool.not_eq_true', decide_eq_false_iff_not]
      omega
  rw [e]
  show some (r.toNat - 1 + 1) = _
  congr 1
  omega
theorem cross_out {a v u : Int} {m : Nat} : (crossF a v u m = none ∧ ∀ k : Nat, 1 ≤ k → k ≤ m → 0 < hgt a v u k) ∨ ∃ r : Nat, crossF a v u m = some r ∧ 1 ≤ r ∧ r ≤ m ∧ hgt a v u r ≤ 0 ∧ ∀ k : Nat, 1 ≤ k → k < r → 0 < hgt a v u k := by
  unfold crossF
  cases e : (List.range m).find? (fun (k : Nat) => decide (hgt a v u ((k : Int) + 1) ≤ 0)) with
  | none =>
    refine .inl ⟨rfl, fun k h1 h2 => ?_⟩
    rw [List.find?_eq_none] at e
    have := e (k - 1) (List.mem_range.mpr (by omega))
    rw [show (((k - 1 : Nat) : Int) + 1) = k by omega] at this
    by_cases c : 0 < hgt a v u k
    · exact c
    · exact (this (decide_eq_true (by omega))).elim
  | some r =>
    rw [List.find?_range_eq_some] at e
    obtain ⟨h1, h2, h3⟩ := e
    refine .inr ⟨r + 1, rfl, by omega, by have := List.mem_range.mp h2; omega, ?_, fun k k1 k2 => ?_⟩
    · have := of_decide_eq_true h1
      rw [show ((r + 1 : Nat) : Int) = (r : Int) + 1 by omega]
      exact this
    · have := h3 (k - 1) (by omega)
      rw [Bool.not_eq_true', decide_eq_false_iff_not, show (((k - 1 : Nat) : Int) + 1) = k by omega] at this
      omega
theorem cross_more {a v u : Int} {m M : Nat} (h : m ≤ M) : crossF a v u M = crossF a v u m ∨ (crossF a v u m = none ∧ ∃ r, crossF a v u M = some r ∧ m < r) := by
  rcases cross_out (a := a) (v := v) (u := u) (m := M) with ⟨e, p⟩ | ⟨r, e, r1, r2, r0, p⟩
  · refine .inl (e.trans (cross_none fun k k1 k2 => ?_).symm)
    have := p k.toNat (by omega) (by omega)
    rw [show ((k.toNat : Nat) : Int) = k by omega] at this
    exact this
  · by_cases c : r ≤ m
    · refine .inl (e.trans ?_)
      rw [cross_some (r := (r : Int)) (by omega) (by omega) r0 fun k k1 k2 => ?_]
      · rfl
      · have := p k.toNat (by omega) (by omega)
        rw [show ((k.toNat : Nat) : Int) = k by omega] at this
        exact this
    · refine .inr ⟨cross_none fun k k1 k2 => ?_, r, e, by omega⟩
      have := p k.toNat (by omega) (by omega)
      rw [show ((k.toNat : Nat) : Int) = k by omega] at this
      exact this
/-- the crossing that is told -/
def crossT (a v u : Int) (m : Nat) : Option Nat := if a = 0 then some 1 else if 0 < a then crossF a v u m else crossF (-a) (-v) (-u) m
theorem crossT_more {a v u : Int} {m M : Nat} (h : m ≤ M) : crossT a v u M = crossT a v u m ∨ (crossT a v u m = none ∧ ∃ r, crossT a v u M = some r ∧ m < r) := by
  unfold crossT
  split
  · exact .inl rfl
  · split <;> exact cross_more h
/-! ### walks -/
def walkV (s w : F) : Nat → F
  | 0 => s
  | k + 1 => plusM (walkV s w k) w
def walkP (p s w : F) : Nat → F
  | 0 => p
  | k + 1 => plusM (walkP p s w k) (walkV s w (k + 1))
theorem walkV_nrm {s w : F} (hs : Nrm s) (hw : Nrm w) : ∀ k, Nrm (walkV s w k)
  | 0 => hs
  | k + 1 => plus_nrm (walkV_nrm hs hw k) hw
theorem walkP_nrm {p s w : F} (hp : Nrm p) (hs : Nrm s) (hw : Nrm w) : ∀ k, Nrm (walkP p s w k)
  | 0 => hp
  | k + 1 => plus_nrm (walkP_nrm hp hs hw k) (walkV_nrm hs hw (k + 1))
theorem vl_walkV {s w : F} (hs : Nrm s) (hw : Nrm w) : ∀ k : Nat, vl (walkV s w k) = vl s + ((k : Int) : Rat) * vl w
  | 0 => by
    show vl s = _
    have : (((0 : Nat) : Int) : Rat) = 0 := rfl
    grind
  | k + 1 => by
    show vl (plusM (walkV s w k) w) = _
    rw [vl_plus (walkV_nrm hs hw k) hw, vl_walkV hs hw k]
    have : ((((k + 1 : Nat) : Int)) : Rat) = ((k : Int) : Rat) + 1 := by
      rw [show ((k + 1 : Nat) : Int) = (k : Int) + 1 by omega, Rat.intCast_add]
      rfl
    grind
theorem vl_walkP {p s w : F} (hp : Nrm p) (hs : Nrm s) (hw : Nrm w) : ∀ k : Nat, 2 * vl (walkP p s w k) = 2 * vl p + 2 * ((k : Int) : Rat) * vl s + ((k : Int) : Rat) * (((k : Int) : Rat) + 1) * vl w
  | 0 => by
    show 2 * vl p = _
    have : (((0 : Nat) : Int) : Rat) = 0 := rfl
    grind
  | k + 1 => by
    show 2 * vl (plusM (walkP p s w k) (walkV s w (k + 1))) = _
    have ih := vl_walkP hp hs hw k
    rw [vl_plus (walkP_nrm hp hs hw k) (walkV_nrm hs hw (k + 1)), vl_walkV hs hw (k + 1)]
    have : ((((k + 1 : Nat) : Int)) : Rat) = ((k : Int) : Rat) + 1 := by
      rw [show ((k + 1 : Nat) : Int) = (k : Int) + 1 by omega, Rat.intCast_add]
      rfl
    rw [this]
    grind
theorem num_vl {c : Nat} {t : F} (h : Nrm t) (d : t.2.natAbs ∣ c) : ((t.1 * ((c : Int) / t.2) : Int) : Rat) = ((c : Int) : Rat) * vl t := by
  have p := h.1
  obtain ⟨k, hk⟩ : t.2 ∣ (c : Int) := by rw [← Int.natAbs_dvd]; exact Int.natCast_dvd_natCast.mpr d
  have e : t.1 * ((c : Int) / t.2) = t.1 * k := by rw [hk, Int.mul_ediv_cancel_left _ (by omega)]
  have p' := cpos p
  have pn : (t.2 : Rat) ≠ 0 := by grind
  rw [e, hk, Rat.intCast_mul, Rat.intCast_mul]
  unfold vl
  grind
/-- twice the height, in whole numbers -/
theorem hgt_vl {p s w l : F} {c : Nat} {a v u : Int} (hp : Nrm p) (hs : Nrm s) (hw : Nrm w) (hl : Nrm l) (ea : (a : Rat) = ((c : Int) : Rat) * vl (minusM p l)) (ev : (v : Rat) = ((c : Int) : Rat) * vl s) (eu : (u : Rat) = ((c : Int) : Rat) * vl w) (k : Nat) :
    ((hgt a v u k : Int) : Rat) = 2 * ((c : Int) : Rat) * (vl (walkP p s w k) - vl l) := by
  have h := vl_walkP hp hs hw k
  rw [vl_minus hp hl] at ea
  unfold hgt
  rw [Rat.intCast_add, Rat.intCast_add, Rat.intCast_mul, Rat.intCast_mul, Rat.intCast_mul, Rat.intCast_mul, Rat.intCast_mul, Rat.intCast_add, ea, ev, eu]
  have e1 : ((1 : Int) : Rat) = 1 := rfl
  have e2 : ((2 : Int) : Rat) = 2 := rfl
  grind
theorem hgt_sgn {p s w l : F} {c : Nat} {a v u : Int} (c0 : 0 < c) (hp : Nrm p) (hs : Nrm s) (hw : Nrm w) (hl : Nrm l) (ea : (a : Rat) = ((c : Int) : Rat) * vl (minusM p l)) (ev : (v : Rat) = ((c : Int) : Rat) * vl s) (eu : (u : Rat) = ((c : Int) : Rat) * vl w) (k : Nat) :
    (0 < (minusM (walkP p s w k) l).1 ↔ 0 < hgt a v u k) ∧ ((minusM (walkP p s w k) l).1 < 0 ↔ hgt a v u k < 0) := by
  have h := hgt_vl hp hs hw hl ea ev eu k
  have n := minus_nrm (walkP_nrm hp hs hw k) hl
  have hc := cpos (show (0 : Int) < (c : Int) by omega)
  rw [← vl_pos n.1, ← vl_neg n.1, vl_minus (walkP_nrm hp hs hw k) hl]
  generalize vl (walkP p s w k) - vl l = x at *
  have z : ((0 : Int) : Rat) = 0 := rfl
  have q1 : (0 : Rat) < ((hgt a v u k : Int) : Rat) ↔ 0 < hgt a v u k := by
    rw [← z]
    exact Rat.intCast_lt_intCast
  have q2 : ((hgt a v u k : Int) : Rat) < 0 ↔ hgt a v u k < 0 := by
    rw [← z]
    exact Rat.intCast_lt_intCast
  rw [← q1, ← q2, h]
  refine ⟨⟨fun y => Rat.mul_pos (by grind) y, fun y => ?_⟩, fun y => ?_, fun y => ?_⟩
  · by_cases q : 0 < x
    · exact q
    · have := Rat.mul_nonneg (show 0 ≤ 2 * ((c : Int) : Rat) by grind) (show 0 ≤ -x by grind)
      grind
  · have := Rat.mul_pos (show 0 < 2 * ((c : Int) : Rat) by grind) (show 0 < -x by grind)
    grind
  · by_cases q : x < 0
    · exact q
    · have := Rat.mul_nonneg (show 0 ≤ 2 * ((c : Int) : Rat) by grind) (show 0 ≤ x by grind)
      grind
/-! ### the greatest place -/
def topF (v u : Int) : Option Int := if u < 0 then some (turnM v (-u)) else if 0 < u ∨ 0 < v then none else some 0
theorem top_nn {v u t : Int} (h : topF v u = some t) : 0 ≤ t := by
  unfold topF at h
  split at h
  · cases h
    exact turn_nn _ _
  · split at h
    · cases h
    · cases h
      omega
theorem top_up {v u t k : Int} (h : topF v u = some t) (h0 : 0 ≤ k) (hk : k < t) : 0 < v + (k + 1) * u := by
  unfold topF at h
  split at h
  · cases h
    have := turn_in (s := v) (b := -u) (k := k + 1) (by omega) (by omega) (by omega)
    have e : (k + 1) * -u = -((k + 1) * u) := by grind
    omega
  · split at h
    · cases h
    · cases h
      omega
theorem top_down {v u t k : Int} (h : topF v u = some t) (hk : t ≤ k) : v + (k + 1) * u ≤ 0 := by
  have nn := top_nn h
  unfold topF at h
  split at h
  · cases h
    have := turn_out (s := v) (b := -u) (k := k + 1) (by omega) (by omega) (by omega)
    have e : (k + 1) * -u = -((k + 1) * u) := by grind
    omega
  · split at h
    · cases h
    · rename_i c
      cases h
      have : u = 0 := by omega
      rw [this]
      omega
/-- one place more, in whole numbers -/
theorem step_vl {p s w : F} {c : Nat} {v u : Int} (c0 : 0 < c) (hp : Nrm p) (hs : Nrm s) (hw : Nrm w) (ev : (v : Rat) = ((c : Int) : Rat) * vl s) (eu : (u : Rat) = ((c : Int) : Rat) * vl w) (k : Nat) :
    (0 < v + ((k : Int) + 1) * u → vl (walkP p s w k) < vl (walkP p s w (k + 1))) ∧ (v + ((k : Int) + 1) * u ≤ 0 → vl (walkP p s w (k + 1)) ≤ vl (walkP p s w k)) := by
  have hc := cpos (show (0 : Int) < (c : Int) by omega)
  have e : vl (walkP p s w (k + 1)) = vl (walkP p s w k) + vl (walkV s w (k + 1)) := vl_plus (walkP_nrm hp hs hw k) (walkV_nrm hs hw (k + 1))
  have e2 := vl_walkV hs hw (k + 1)
  have e3 : ((((k + 1 : Nat) : Int)) : Rat) = ((k : Int) : Rat) + 1 := by
    rw [show ((k + 1 : Nat) : Int) = (k : Int) + 1 by omega, Rat.intCast_add]
    rfl
  have e4 : ((v + ((k : Int) + 1) * u : Int) : Rat) = ((c : Int) : Rat) * vl (walkV s w (k + 1)) := by
    rw [Rat.intCast_add, Rat.intCast_mul, Rat.intCast_add, ev, eu, e2, e3]
    have e1 : ((1 : Int) : Rat) = 1 := rfl
    grind
  have z : ((0 : Int) : Rat) = 0 := rfl
  rw [e]
  generalize vl (walkV s w (k + 1)) = x at *
  refine ⟨fun h => ?_, fun h => ?_⟩
  · have h1 : (0 : Rat) < ((c : Int) : Rat) * x := by
      rw [← e4, ← z]
      exact Rat.intCast_lt_intCast.mpr h
    by_cases q : 0 < x
    · grind
    · have := Rat.mul_nonneg (show 0 ≤ ((c : Int) : Rat) by grind) (show 0 ≤ -x by grind)
      grind
  · have h1 : ((c : Int) : Rat) * x ≤ 0 := by
      rw [← e4, ← z]
      exact Rat.intCast_le_intCast.mpr h
    by_cases q : 0 < x
    · have := Rat.mul_pos hc q
      grind
    · grind
/-- the height at k is beyond the line, or the walk began on it -/
def Crs (a v u : Int) (k : Nat) : Prop := a = 0 ∨ (0 < a ∧ hgt a v u k ≤ 0) ∨ (a < 0 ∧ 0 ≤ hgt a v u k)
theorem crossT_some {a v u : Int} {k n : Nat} (h1 : 1 ≤ k) (h2 : k ≤ n) (h : Crs a v u k) (hn : ∀ j : Nat, 1 ≤ j → j < k → ¬ Crs a v u j) : crossT a v u n = some k := by
  unfold crossT
  by_cases c : a = 0
  · rw [if_pos c]
    by_cases z : k = 1
    · rw [z]
    · exact absurd (.inl c) (hn 1 (by omega) (by omega))
  rw [if_neg c]
  have up : ∀ j : Int, 1 ≤ j → j < k → ¬ Crs a v u j.toNat := fun j j1 j2 => hn j.toNat (by omega) (by omega)
  by_cases d : 0 < a
  · rw [if_pos d]
    have h0 : hgt a v u k ≤ 0 := by
      rcases h with h | h | h <;> omega
    refine (cross_some (r := (k : Int)) (by omega) (by omega) h0 fun j j1 j2 => ?_).trans (by rw [Int.toNat_natCast])
    have := up j j1 j2
    by_cases q : 0 < hgt a v u j
    · exact q
    · exact absurd (.inr (.inl ⟨d, by rw [show ((j.toNat : Nat) : Int) = j by omega]; omega⟩)) this
  · rw [if_neg d]
    have h0 : 0 ≤ hgt a v u k := by
      rcases h with h | h | h <;> omega
    refine (cross_some (r := (k : Int)) (by omega) (by omega) (by rw [hgt_neg]; omega) fun j j1 j2 => ?_).trans (by rw [Int.toNat_natCast])
    have := up j j1 j2
    rw [hgt_neg]
    by_cases q : hgt a v u j < 0
    · omega
    · exact absurd (.inr (.inr ⟨by omega, by rw [show ((j.toNat : Nat) : Int) = j by omega]; omega⟩)) this
theorem crossT_none {a v u : Int} {n : Nat} (h1 : 1 ≤ n) (hn : ∀ j : Nat, 1 ≤ j → j ≤ n → ¬ Crs a v u j) : crossT a v u n = none := by
  unfold crossT
  by_cases c : a = 0
  · exact absurd (.inl c) (hn 1 (by omega) h1)
  rw [if_neg c]
  have up : ∀ j : Int, 1 ≤ j → j ≤ n → ¬ Crs a v u j.toNat := fun j j1 j2 => hn j.toNat (by omega) (by omega)
  by_cases d : 0 < a
  · rw [if_pos d]
    refine cross_none fun j j1 j2 => ?_
    have := up j j1 j2
    by_cases q : 0 < hgt a v u j
    · exact q
    · exact absurd (.inr (.inl ⟨d, by rw [show ((j.toNat : Nat) : Int) = j by omega]; omega⟩)) this
  · rw [if_neg d]
    refine cross_none fun j j1 j2 => ?_
    have := up j j1 j2
    rw [hgt_neg]
    by_cases q : hgt a v u j < 0
    · omega
    · exact absurd (.inr (.inr ⟨by omega, by rw [show ((j.toNat : Nat) : Int) = j by omega]; omega⟩)) this
/-- what is drawn: place, speed, pull -/
structure Wk (p s w : F) : Prop where
  p : Sm 2520 10 p
  s : Sm 2520 8 s
  w : Sm 2520 3 w
theorem Wk.v {p s w : F} (h : Wk p s w) : ∀ k : Nat, Sm 2520 (8 + 3 * k) (walkV s w k)
  | 0 => h.s
  | k + 1 => ((h.v k).plus h.w).up (by omega)
theorem Wk.pl {p s w : F} (h : Wk p s w) : ∀ k : Nat, Sm 2520 (10 + k * (8 + 3 * k)) (walkP p s w k)
  | 0 => h.p.up (by omega)
  | k + 1 => ((h.pl k).plus (h.v (k + 1))).up (by
    have : (k + 1) * (8 + 3 * (k + 1)) = k * (8 + 3 * k) + (6 * k + 11) := by grind
    omega)
theorem Wk.v60 {p s w : F} (h : Wk p s w) {k : Nat} (hk : k ≤ 60) : Sm 2520 200 (walkV s w k) := (h.v k).up (by omega)
theorem Wk.p60 {p s w : F} (h : Wk p s w) {k : Nat} (hk : k ≤ 60) : Sm 2520 12000 (walkP p s w k) := (h.pl k).up (by
  have : k * (8 + 3 * k) ≤ 60 * (8 + 3 * 60) := Nat.mul_le_mul hk (by omega)
  omega)
end FR
local macro_rules | `(tactic| walk_at "norm") => `(tactic| try simp only [PL.cxK, PL.cxHK, List.map_cons, List.map_nil, List.cons_append, List.nil_append, List.length_cons, List.length_nil, List.replicate_succ, List.replicate_zero, Nat.reduceAdd, Nat.reduceSub, Nat.zero_add, Nat.sub_self])
local macro_rules | `(tactic| walk_at "ev") => `(tactic| repeat' (first | exact PL.e_var rfl | exact PL.e_int | exact PL.e_bl | exact PL.e_str | exact PL.e_non | exact PL.a_nil | refine PL.p_cons ?_ ?_ | refine PL.p_f1 ?_ | refine PL.p_f2 ?_ | refine PL.p_add ?_ ?_ | refine PL.p_sub ?_ ?_ | refine PL.p_mul ?_ ?_ ?_ | refine PL.p_div ?_ ?_ ?_ | refine PL.p_mod ?_ ?_ ?_ | refine PL.p_pow ?_ ?_ ?_ | refine PL.p_lt ?_ ?_ | refine PL.p_le ?_ ?_ | refine PL.p_gt ?_ ?_ | refine PL.p_ge ?_ ?_ | refine PL.p_eqI ?_ ?_ | refine PL.p_neI ?_ ?_ | refine PL.p_neg ?_ | refine PL.p_gcd ?_ | refine PL.p_int1 ?_ | refine PL.p_abs ?_ | refine PL.p_len ?_ | refine PL.p_test ?_ | refine PL.d_ix0 ?_ | refine PL.d_ix1 ?_ | refine PL.d_ix2 ?_ | refine PL.d_ix3 ?_ | refine PL.p_list ?_ | refine' PL.p_i0 _ | refine' PL.p_i1 _ | refine' PL.p_i2 _))
namespace W
open PySem PySem.Spec PyProof.Rows L2 FR PL
def topS (i : Nat) : Stmt := PySem.Challenge.pw_steadybodies_k47_free_flights.main.body.getD i (.Pass ⟨0, 0, 0, 0⟩)
abbrev s_fraction : Stmt := topS 14
abbrev s_plus : Stmt := topS 15
theorem sc_plus : FnScope ["a", "b", "shared", "stretched", "numerator", "divisor"] ["a", "b"] (defScope s_plus) := ⟨rfl, rfl, rfl, by decide +kernel, rfl, by decide +kernel, by decide +kernel⟩
abbrev s_minus : Stmt := topS 16
theorem sc_minus : FnScope ["a", "b"] ["a", "b"] (defScope s_minus) := ⟨rfl, rfl, rfl, by decide +kernel, rfl, by decide +kernel, by decide +kernel⟩
abbrev s_times : Stmt := topS 17
theorem sc_times : FnScope ["a", "b", "first", "second"] ["a", "b"] (defScope s_times) := ⟨rfl, rfl, rfl, by decide +kernel, rfl, by decide +kernel, by decide +kernel⟩
abbrev s_over : Stmt := topS 18
theorem sc_over : FnScope ["a", "b"] ["a", "b"] (defScope s_over) := ⟨rfl, rfl, rfl, by decide +kernel, rfl, by decide +kernel, by decide +kernel⟩
abbrev s_compare : Stmt := topS 19
theorem sc_compare : FnScope ["a", "b", "left", "right"] ["a", "b"] (defScope s_compare) := ⟨rfl, rfl, rfl, by decide +kernel, rfl, by decide +kernel, by decide +kernel⟩
abbrev s_least : Stmt := topS 20
theorem sc_least : FnScope ["items", "best", "item"] ["items"] (defScope s_least) := ⟨rfl, rfl, rfl, by decide +kernel, rfl, by decide +kernel, by decide +kernel⟩
abbrev s_greatest : Stmt := topS 21
theorem sc_greatest : FnScope ["items", "best", "item"] ["items"] (defScope s_greatest) := ⟨rfl, rfl, rfl, by decide +kernel, rfl, by decide +kernel, by decide +kernel⟩
abbrev s_common_denominator : Stmt := topS 22
theorem sc_common_denominator : FnScope ["items", "common", "_", "denominator"] ["items"] (defScope s_common_denominator) := ⟨rfl, rfl, rfl, by decide +kernel, rfl, by decide +kernel, by decide +kernel⟩
abbrev s_add : Stmt := topS 24
theorem sc_add : FnScope ["a", "b"] ["a", "b"] (defScope s_add) := ⟨rfl, rfl, rfl, by decide +kernel, rfl, by decide +kernel, by decide +kernel⟩
abbrev s_scale : Stmt := topS 25
theorem sc_scale : FnScope ["a", "factor"] ["a", "factor"] (defScope s_scale) := ⟨rfl, rfl, rfl, by decide +kernel, rfl, by decide +kernel, by decide +kernel⟩
abbrev s_flight : Stmt := topS 28
theorem sc_flight : FnScope ["place", "speed", "pull", "n", "gain", "way"] ["place", "speed", "pull", "n"] (defScope s_flight) := ⟨rfl, rfl, rfl, by decide +kernel, rfl, by decide +kernel, by decide +kernel⟩
abbrev s_crossing_tick : Stmt := topS 29
theorem sc_crossing_tick : FnScope ["place", "speed", "pull", "line", "most", "start", "last"] ["place", "speed", "pull", "line", "most"] (defScope s_crossing_tick) := ⟨rfl, rfl, rfl, by decide +kernel, rfl, by decide +kernel, by decide +kernel⟩
abbrev s_whole_numbers : Stmt := topS 30
theorem sc_whole_numbers : FnScope ["items", "common", "number", "denominator"] ["items"] (defScope s_whole_numbers) := ⟨rfl, rfl, rfl, by decide +kernel, rfl, by decide +kernel, by decide +kernel⟩
abbrev s_height_after : Stmt := topS 31
theorem sc_height_after : FnScope ["start", "speed", "pull", "n"] ["start", "speed", "pull", "n"] (defScope s_height_after) := ⟨rfl, rfl, rfl, by decide +kernel, rfl, by decide +kernel, by decide +kernel⟩
abbrev s_last_fall : Stmt := topS 32
theorem sc_last_fall : FnScope ["speed", "pull", "most"] ["speed", "pull", "most"] (defScope s_last_fall) := ⟨rfl, rfl, rfl, by decide +kernel, rfl, by decide +kernel, by decide +kernel⟩
abbrev s_ticks_before_turn : Stmt := topS 33
theorem sc_ticks_before_turn : FnScope ["speed", "brake"] ["speed", "brake"] (defScope s_ticks_before_turn) := ⟨rfl, rfl, rfl, by decide +kernel, rfl, by decide +kernel, by decide +kernel⟩
abbrev s_first_below : Stmt := topS 34
theorem sc_first_below : FnScope ["start", "speed", "pull", "last", "low", "high", "middle"] ["start", "speed", "pull", "last"] (defScope s_first_below) := ⟨rfl, rfl, rfl, by decide +kernel, rfl, by decide +kernel, by decide +kernel⟩
abbrev s_highest_tick : Stmt := topS 35
theorem sc_highest_tick : FnScope ["speed", "pull"] ["speed", "pull"] (defScope s_highest_tick) := ⟨rfl, rfl, rfl, by decide +kernel, rfl, by decide +kernel, by decide +kernel⟩
abbrev s_nearest : Stmt := topS 41
theorem sc_nearest : FnScope ["weights", "wishes", "lines", "search", "line"] ["weights", "wishes", "lines"] (defScope s_nearest) := ⟨rfl, rfl, rfl, by decide +kernel, rfl, by decide +kernel, by decide +kernel⟩
abbrev s_check_task : Stmt := topS 42
theorem sc_check_task : FnScope ["weights", "wishes", "lines", "parts", "_", "weight"] ["weights", "wishes", "lines"] (defScope s_check_task) := ⟨rfl, rfl, rfl, by decide +kernel, rfl, by decide +kernel, by decide +kernel⟩
abbrev s_check_parts : Stmt := topS 43
theorem sc_check_parts : FnScope ["parts", "count", "before", "spot", "factor"] ["parts", "count"] (defScope s_check_parts) := ⟨rfl, rfl, rfl, by decide +kernel, rfl, by decide +kernel, by decide +kernel⟩
abbrev s_Search_init : Stmt := inClass (topS 44) 0
theorem sc_Search_init : FnScope ["self", "weights", "wishes", "lines", "parts", "_", "scale", "bound"] ["self", "weights", "wishes", "lines"] (defScope s_Search_init) := ⟨rfl, rfl, rfl, by decide +kernel, rfl, by decide +kernel, by decide +kernel⟩
abbrev s_Search_worst_line : Stmt := inClass (topS 44) 1
theorem sc_Search_worst_line : FnScope ["self", "common", "denominator", "point", "worst", "most", "unit", "line", "edge", "total", "miss", "size", "number", "spot", "factor"] ["self"] (defScope s_Search_worst_line) := ⟨rfl, rfl, rfl, by decide +kernel, rfl, by decide +kernel, by decide +kernel⟩
abbrev s_Search_raise_line : Stmt := inClass (topS 44) 2
theorem sc_Search_raise_line : FnScope ["self", "line", "group", "turns", "stiffness", "step", "blocking", "full"] ["self", "line"] (defScope s_Search_raise_line) := ⟨rfl, rfl, rfl, by decide +kernel, rfl, by decide +kernel, by decide +kernel⟩
abbrev s_Search_forces : Stmt := inClass (topS 44) 3
theorem sc_Search_forces : FnScope ["self", "line"] ["self"] (defScope s_Search_forces) := ⟨rfl, rfl, rfl, by decide +kernel, rfl, by decide +kernel, by decide +kernel⟩
abbrev s_scale_of : Stmt := topS 45
theorem sc_scale_of : FnScope ["parts", "_", "factor"] ["parts"] (defScope s_scale_of) := ⟨rfl, rfl, rfl, by decide +kernel, rfl, by decide +kernel, by decide +kernel⟩
abbrev s_whole_factors : Stmt := topS 46
theorem sc_whole_factors : FnScope ["parts", "scale", "spot", "factor"] ["parts", "scale"] (defScope s_whole_factors) := ⟨rfl, rfl, rfl, by decide +kernel, rfl, by decide +kernel, by decide +kernel⟩
abbrev s_is_sized : Stmt := topS 48
theorem sc_is_sized : FnScope ["size"] ["size"] (defScope s_is_sized) := ⟨rfl, rfl, rfl, by decide +kernel, rfl, by decide +kernel, by decide +kernel⟩
abbrev s_ends_of : Stmt := topS 49
theorem sc_ends_of : FnScope ["box", "x", "y", "width", "height"] ["box"] (defScope s_ends_of) := ⟨rfl, rfl, rfl, by decide +kernel, rfl, by decide +kernel, by decide +kernel⟩
abbrev s_gap_of_ends : Stmt := topS 50
theorem sc_gap_of_ends : FnScope ["one", "other"] ["one", "other"] (defScope s_gap_of_ends) := ⟨rfl, rfl, rfl, by decide +kernel, rfl, by decide +kernel, by decide +kernel⟩
abbrev s_ends_overlap : Stmt := topS 51
theorem sc_ends_overlap : FnScope ["one", "other", "axis"] ["one", "other"] (defScope s_ends_overlap) := ⟨rfl, rfl, rfl, by decide +kernel, rfl, by decide +kernel, by decide +kernel⟩
abbrev s_check_state : Stmt := topS 59
theorem sc_check_state : FnScope ["state", "bodies", "joints", "_", "places", "joint"] ["state"] (defScope s_check_state) := ⟨rfl, rfl, rfl, by decide +kernel, rfl, by decide +kernel, by decide +kernel⟩
abbrev s_check_bodies : Stmt := topS 60
theorem sc_check_bodies : FnScope ["bodies", "before", "body", "name"] ["bodies"] (defScope s_check_bodies) := ⟨rfl, rfl, rfl, by decide +kernel, rfl, by decide +kernel, by decide +kernel⟩
abbrev s_is_body_sound : Stmt := topS 61
theorem sc_is_body_sound : FnScope ["body", "_", "size", "mass", "grip", "speed"] ["body"] (defScope s_is_body_sound) := ⟨rfl, rfl, rfl, by decide +kernel, rfl, by decide +kernel, by decide +kernel⟩
abbrev s_check_overlaps : Stmt := topS 62
theorem sc_check_overlaps : FnScope ["bodies", "ends", "at", "one", "other", "body"] ["bodies"] (defScope s_check_overlaps) := ⟨rfl, rfl, rfl, by decide +kernel, rfl, by decide +kernel, by decide +kernel⟩
abbrev s_check_joint : Stmt := topS 63
theorem sc_check_joint : FnScope ["places", "joint", "one", "other", "axis", "low", "high", "way"] ["places", "joint"] (defScope s_check_joint) := ⟨rfl, rfl, rfl, by decide +kernel, rfl, by decide +kernel, by decide +kernel⟩
abbrev s_joint_way : Stmt := topS 64
theorem sc_joint_way : FnScope ["places", "joint", "one", "other", "axis", "_"] ["places", "joint"] (defScope s_joint_way) := ⟨rfl, rfl, rfl, by decide +kernel, rfl, by decide +kernel, by decide +kernel⟩
abbrev s_is_moving : Stmt := topS 65
theorem sc_is_moving : FnScope ["body"] ["body"] (defScope s_is_moving) := ⟨rfl, rfl, rfl, by decide +kernel, rfl, by decide +kernel, by decide +kernel⟩
abbrev s_are_moving_names : Stmt := topS 66
theorem sc_are_moving_names : FnScope ["bodies", "names", "moving", "before", "name", "body"] ["bodies", "names"] (defScope s_are_moving_names) := ⟨rfl, rfl, rfl, by decide +kernel, rfl, by decide +kernel, by decide +kernel⟩
abbrev s_box_of_body : Stmt := topS 67
theorem sc_box_of_body : FnScope ["body"] ["body"] (defScope s_box_of_body) := ⟨rfl, rfl, rfl, by decide +kernel, rfl, by decide +kernel, by decide +kernel⟩
abbrev s_places_of : Stmt := topS 68
theorem sc_places_of : FnScope ["bodies", "body"] ["bodies"] (defScope s_places_of) := ⟨rfl, rfl, rfl, by decide +kernel, rfl, by decide +kernel, by decide +kernel⟩
abbrev s_check_pushes : Stmt := topS 71
theorem sc_check_pushes : FnScope ["state", "pushes"] ["state", "pushes"] (defScope s_check_pushes) := ⟨rfl, rfl, rfl, by decide +kernel, rfl, by decide +kernel, by decide +kernel⟩
abbrev s_check_pushed : Stmt := topS 72
theorem sc_check_pushed : FnScope ["state", "pushes", "name", "_"] ["state", "pushes"] (defScope s_check_pushed) := ⟨rfl, rfl, rfl, by decide +kernel, rfl, by decide +kernel, by decide +kernel⟩
abbrev s_plain_rows : Stmt := topS 73
theorem sc_plain_rows : FnScope ["state", "pushes", "fixed", "body", "name", "parts", "bound", "part"] ["state", "pushes"] (defScope s_plain_rows) := ⟨rfl, rfl, rfl, by decide +kernel, rfl, by decide +kernel, by decide +kernel⟩
abbrev s_full_rows : Stmt := topS 74
theorem sc_full_rows : FnScope ["state", "pushes", "rows", "one", "other"] ["state", "pushes"] (defScope s_full_rows) := ⟨rfl, rfl, rfl, by decide +kernel, rfl, by decide +kernel, by decide +kernel⟩
abbrev s_items_of : Stmt := topS 75
theorem sc_items_of : FnScope ["state", "pushes", "bodies", "_", "pull", "push_of", "body"] ["state", "pushes"] (defScope s_items_of) := ⟨rfl, rfl, rfl, by decide +kernel, rfl, by decide +kernel, by decide +kernel⟩
abbrev s_free_speed : Stmt := topS 76
theorem sc_free_speed : FnScope ["body", "pull", "push", "_", "mass", "speed"] ["body", "pull", "push"] (defScope s_free_speed) := ⟨rfl, rfl, rfl, by decide +kernel, rfl, by decide +kernel, by decide +kernel⟩
abbrev s_pairs_of : Stmt := topS 77
theorem sc_pairs_of : FnScope ["items", "at", "one", "other"] ["items"] (defScope s_pairs_of) := ⟨rfl, rfl, rfl, by decide +kernel, rfl, by decide +kernel, by decide +kernel⟩
abbrev s_gap_of_items : Stmt := topS 78
theorem sc_gap_of_items : FnScope ["one", "other", "axis"] ["one", "other", "axis"] (defScope s_gap_of_items) := ⟨rfl, rfl, rfl, by decide +kernel, rfl, by decide +kernel, by decide +kernel⟩
abbrev s_in_line : Stmt := topS 79
theorem sc_in_line : FnScope ["one", "other", "axis"] ["one", "other", "axis"] (defScope s_in_line) := ⟨rfl, rfl, rfl, by decide +kernel, rfl, by decide +kernel, by decide +kernel⟩
abbrev s_end_gap : Stmt := topS 80
theorem sc_end_gap : FnScope ["one", "other", "axis", "behind", "front", "nearing"] ["one", "other", "axis"] (defScope s_end_gap) := ⟨rfl, rfl, rfl, by decide +kernel, rfl, by decide +kernel, by decide +kernel⟩
abbrev s_axis_of_items : Stmt := topS 81
theorem sc_axis_of_items : FnScope ["one", "other"] ["one", "other"] (defScope s_axis_of_items) := ⟨rfl, rfl, rfl, by decide +kernel, rfl, by decide +kernel, by decide +kernel⟩
abbrev s_rows_of_items : Stmt := topS 82
theorem sc_rows_of_items : FnScope ["one", "other", "axis", "gap_here", "behind", "front", "grip", "nearing", "slopes", "rows", "side", "slope", "sliding", "name"] ["one", "other"] (defScope s_rows_of_items) := ⟨rfl, rfl, rfl, by decide +kernel, rfl, by decide +kernel, by decide +kernel⟩
abbrev s_parts_of : Stmt := topS 83
theorem sc_parts_of : FnScope ["terms", "parts", "body", "axis", "factor"] ["terms"] (defScope s_parts_of) := ⟨rfl, rfl, rfl, by decide +kernel, rfl, by decide +kernel, by decide +kernel⟩
abbrev s_rows_of_joints : Stmt := topS 84
theorem sc_rows_of_joints : FnScope ["state", "bodies", "joints", "_", "named", "places", "rows", "number", "joint", "one", "other", "axis", "low", "high", "way", "widening", "narrowing", "body"] ["state"] (defScope s_rows_of_joints) := ⟨rfl, rfl, rfl, by decide +kernel, rfl, by decide +kernel, by decide +kernel⟩
abbrev s_spots_of : Stmt := topS 86
theorem sc_spots_of : FnScope ["state", "names", "body", "at", "name", "axis"] ["state"] (defScope s_spots_of) := ⟨rfl, rfl, rfl, by decide +kernel, rfl, by decide +kernel, by decide +kernel⟩
abbrev s_task_of : Stmt := topS 87
theorem sc_task_of : FnScope ["state", "pushes", "rows", "weights", "wishes", "body", "_", "free"] ["state", "pushes", "rows"] (defScope s_task_of) := ⟨rfl, rfl, rfl, by decide +kernel, rfl, by decide +kernel, by decide +kernel⟩
abbrev s_lines_of_rows : Stmt := topS 88
theorem sc_lines_of_rows : FnScope ["state", "rows", "spots", "_", "parts", "bound", "name", "axis", "factor"] ["state", "rows"] (defScope s_lines_of_rows) := ⟨rfl, rfl, rfl, by decide +kernel, rfl, by decide +kernel, by decide +kernel⟩
abbrev s_settle : Stmt := topS 89
theorem sc_settle : FnScope ["state", "pushes", "rows", "weights", "wishes", "lines", "point", "amounts", "forces", "line", "amount"] ["state", "pushes"] (defScope s_settle) := ⟨rfl, rfl, rfl, by decide +kernel, rfl, by decide +kernel, by decide +kernel⟩
abbrev s_speeds_at : Stmt := topS 90
theorem sc_speeds_at : FnScope ["state", "point", "spots", "speeds", "body", "at"] ["state", "point"] (defScope s_speeds_at) := ⟨rfl, rfl, rfl, by decide +kernel, rfl, by decide +kernel, by decide +kernel⟩
abbrev s_tick : Stmt := topS 92
theorem sc_tick : FnScope ["state", "pushes"] ["state", "pushes"] (defScope s_tick) := ⟨rfl, rfl, rfl, by decide +kernel, rfl, by decide +kernel, by decide +kernel⟩
abbrev s_ticked : Stmt := topS 93
theorem sc_ticked : FnScope ["state", "pushes", "speeds", "forces"] ["state", "pushes"] (defScope s_ticked) := ⟨rfl, rfl, rfl, by decide +kernel, rfl, by decide +kernel, by decide +kernel⟩
abbrev s_with_speeds : Stmt := topS 94
theorem sc_with_speeds : FnScope ["state", "speeds", "bodies", "joints", "pull", "new_bodies", "speed", "name", "place", "size", "mass", "grip", "_"] ["state", "speeds"] (defScope s_with_speeds) := ⟨rfl, rfl, rfl, by decide +kernel, rfl, by decide +kernel, by decide +kernel⟩
abbrev s_law_begin : Stmt := topS 96
theorem sc_law_begin : FnScope ["script", "seed", "cell"] ["script"] (defScope s_law_begin) := ⟨rfl, rfl, rfl, by decide +kernel, rfl, by decide +kernel, by decide +kernel⟩
abbrev s_law_take : Stmt := topS 97
theorem sc_law_take : FnScope ["d", "many", "small", "digit"] ["d", "many"] (defScope s_law_take) := ⟨rfl, rfl, rfl, by decide +kernel, rfl, by decide +kernel, by decide +kernel⟩
abbrev s_law_signed : Stmt := topS 98
theorem sc_law_signed : FnScope ["d", "most"] ["d", "most"] (defScope s_law_signed) := ⟨rfl, rfl, rfl, by decide +kernel, rfl, by decide +kernel, by decide +kernel⟩
abbrev s_law_gcd : Stmt := topS 99
theorem sc_law_gcd : FnScope ["a", "b"] ["a", "b"] (defScope s_law_gcd) := ⟨rfl, rfl, rfl, by decide +kernel, rfl, by decide +kernel, by decide +kernel⟩
abbrev s_law_f : Stmt := topS 100
theorem sc_law_f : FnScope ["a", "b", "c"] ["a", "b"] (defScope s_law_f) := ⟨rfl, rfl, rfl, by decide +kernel, rfl, by decide +kernel, by decide +kernel⟩
abbrev s_law_plus : Stmt := topS 101
theorem sc_law_plus : FnScope ["a", "b"] ["a", "b"] (defScope s_law_plus) := ⟨rfl, rfl, rfl, by decide +kernel, rfl, by decide +kernel, by decide +kernel⟩
abbrev s_law_minus : Stmt := topS 102
theorem sc_law_minus : FnScope ["a", "b"] ["a", "b"] (defScope s_law_minus) := ⟨rfl, rfl, rfl, by decide +kernel, rfl, by decide +kernel, by decide +kernel⟩
abbrev s_law_less : Stmt := topS 103
theorem sc_law_less : FnScope ["a", "b"] ["a", "b"] (defScope s_law_less) := ⟨rfl, rfl, rfl, by decide +kernel, rfl, by decide +kernel, by decide +kernel⟩
abbrev s_law_part : Stmt := topS 104
theorem sc_law_part : FnScope ["d", "most"] ["d", "most"] (defScope s_law_part) := ⟨rfl, rfl, rfl, by decide +kernel, rfl, by decide +kernel, by decide +kernel⟩
abbrev s_law_vector : Stmt := topS 105
theorem sc_law_vector : FnScope ["d", "most"] ["d", "most"] (defScope s_law_vector) := ⟨rfl, rfl, rfl, by decide +kernel, rfl, by decide +kernel, by decide +kernel⟩
abbrev s_law_told : Stmt := topS 106
theorem sc_law_told : FnScope ["which", "a", "b", "c", "line", "n", "found"] ["which", "a", "b", "c", "line", "n"] (defScope s_law_told) := ⟨rfl, rfl, rfl, by decide +kernel, rfl, by decide +kernel, by decide +kernel⟩
abbrev s_law_walk : Stmt := topS 107
theorem sc_law_walk : FnScope ["place", "speed", "pull", "n", "rows", "k"] ["place", "speed", "pull", "n"] (defScope s_law_walk) := ⟨rfl, rfl, rfl, by decide +kernel, rfl, by decide +kernel, by decide +kernel⟩
abbrev s_law_cross : Stmt := topS 108
theorem sc_law_cross : FnScope ["rows", "line", "side", "k", "now"] ["rows", "line"] (defScope s_law_cross) := ⟨rfl, rfl, rfl, by decide +kernel, rfl, by decide +kernel, by decide +kernel⟩
abbrev s_law : Stmt := topS 109
theorem sc_law : FnScope ["script", "d", "place", "speed", "pull", "n", "now", "state", "k", "v", "axis", "rows", "line", "most", "due", "told", "best", "top", "grows"] ["script"] (defScope s_law) := ⟨rfl, rfl, rfl, by decide +kernel, rfl, by decide +kernel, by decide +kernel⟩
variable [PL.Nm]
set_option genInjectivity false in
set_option genSizeOf false in
/-- what the top has written -/
structure Top (K : PySem.W.Frag) (mg : Str → Option Value) (base : Heap) where
  f_fraction : Addr
  d_fraction : FuncData
  F_fraction : Fun K "fraction" "fraction" s_fraction f_fraction d_fraction
  g_fraction : mg "fraction" = some (.ref f_fraction)
  b_fraction : Binds K d_fraction ["numerator", "denominator"] []
  f_plus : Addr
  d_plus : FuncData
  F_plus : Fun K "plus" "plus" s_plus f_plus d_plus
  g_plus : mg "plus" = some (.ref f_plus)
  b_plus : Binds K d_plus ["a", "b"] []
  f_minus : Addr
  d_minus : FuncData
  F_minus : Fun K "minus" "minus" s_minus f_minus d_minus
  g_minus : mg "minus" = some (.ref f_minus)
  b_minus : Binds K d_minus ["a", "b"] []
  f_times : Addr
  d_times : FuncData
  F_times : Fun K "times" "times" s_times f_times d_times
  g_times : mg "times" = some (.ref f_times)
  b_times : Binds K d_times ["a", "b"] []
  f_over : Addr
  d_over : FuncData
  F_over : Fun K "over" "over" s_over f_over d_over
  g_over : mg "over" = some (.ref f_over)
  b_over : Binds K d_over ["a", "b"] []
  f_compare : Addr
  d_compare : FuncData
  F_compare : Fun K "compare" "compare" s_compare f_compare d_compare
  g_compare : mg "compare" = some (.ref f_compare)
  b_compare : Binds K d_compare ["a", "b"] []
  f_least : Addr
  d_least : FuncData
  F_least : Fun K "least" "least" s_least f_least d_least
  g_least : mg "least" = some (.ref f_least)
  b_least : Binds K d_least ["items"] []
  f_greatest : Addr
  d_greatest : FuncData
  F_greatest : Fun K "greatest" "greatest" s_greatest f_greatest d_greatest
  g_greatest : mg "greatest" = some (.ref f_greatest)
  b_greatest : Binds K d_greatest ["items"] []
  f_common_denominator : Addr
  d_common_denominator : FuncData
  F_common_denominator : Fun K "common_denominator" "common_denominator" s_common_denominator f_common_denominator d_common_denominator
  g_common_denominator : mg "common_denominator" = some (.ref f_common_denominator)
  b_common_denominator : Binds K d_common_denominator ["items"] []
  f_add : Addr
  d_add : FuncData
  F_add : Fun K "add" "add" s_add f_add d_add
  g_add : mg "add" = some (.ref f_add)
  b_add : Binds K d_add ["a", "b"] []
  f_scale : Addr
  d_scale : FuncData
  F_scale : Fun K "scale" "scale" s_scale f_scale d_scale
  g_scale : mg "scale" = some (.ref f_scale)
  b_scale : Binds K d_scale ["a", "factor"] []
  f_flight : Addr
  d_flight : FuncData
  F_flight : Fun K "flight" "flight" s_flight f_flight d_flight
  g_flight : mg "flight" = some (.ref f_flight)
  b_flight : Binds K d_flight ["place", "speed", "pull", "n"] []
  f_crossing_tick : Addr
  d_crossing_tick : FuncData
  F_crossing_tick : Fun K "crossing_tick" "crossing_tick" s_crossing_tick f_crossing_tick d_crossing_tick
  g_crossing_tick : mg "crossing_tick" = some (.ref f_crossing_tick)
  b_crossing_tick : Binds K d_crossing_tick ["place", "speed", "pull", "line", "most"] []
  f_whole_numbers : Addr
  d_whole_numbers : FuncData
  F_whole_numbers : Fun K "whole_numbers" "whole_numbers" s_whole_numbers f_whole_numbers d_whole_numbers
  g_whole_numbers : mg "whole_numbers" = some (.ref f_whole_numbers)
  b_whole_numbers : Binds K d_whole_numbers ["items"] []
  f_height_after : Addr
  d_height_after : FuncData
  F_height_after : Fun K "height_after" "height_after" s_height_after f_height_after d_height_after
  g_height_after : mg "height_after" = some (.ref f_height_after)
  b_height_after : Binds K d_height_after ["start", "speed", "pull", "n"] []
  f_last_fall : Addr
  d_last_fall : FuncData
  F_last_fall : Fun K "last_fall" "last_fall" s_last_fall f_last_fall d_last_fall
  g_last_fall : mg "last_fall" = some (.ref f_last_fall)
  b_last_fall : Binds K d_last_fall ["speed", "pull", "most"] []
  f_ticks_before_turn : Addr
  d_ticks_before_turn : FuncData
  F_ticks_before_turn : Fun K "ticks_before_turn" "ticks_before_turn" s_ticks_before_turn f_ticks_before_turn d_ticks_before_turn
  g_ticks_before_turn : mg "ticks_before_turn" = some (.ref f_ticks_before_turn)
  b_ticks_before_turn : Binds K d_ticks_before_turn ["speed", "brake"] []
  f_first_below : Addr
  d_first_below : FuncData
  F_first_below : Fun K "first_below" "first_below" s_first_below f_first_below d_first_below
  g_first_below : mg "first_below" = some (.ref f_first_below)
  b_first_below : Binds K d_first_below ["start", "speed", "pull", "last"] []
  f_highest_tick : Addr
  d_highest_tick : FuncData
  F_highest_tick : Fun K "highest_tick" "highest_tick" s_highest_tick f_highest_tick d_highest_tick
  g_highest_tick : mg "highest_tick" = some (.ref f_highest_tick)
  b_highest_tick : Binds K d_highest_tick ["speed", "pull"] []
  f_nearest : Addr
  d_nearest : FuncData
  F_nearest : Fun K "nearest" "nearest" s_nearest f_nearest d_nearest
  g_nearest : mg "nearest" = some (.ref f_nearest)
  b_nearest : Binds K d_nearest ["weights", "wishes", "lines"] []
  f_check_task : Addr
  d_check_task : FuncData
  tc_check_task : Addr
  tp_check_task : Addr
  tb_check_task : GxR.TabB base mg tc_check_task tp_check_task
  F_check_task : PL.FunC K "check_task" "check_task" s_check_task f_check_task d_check_task tc_check_task
  g_check_task : mg "check_task" = some (.ref f_check_task)
  b_check_task : Binds K d_check_task ["weights", "wishes", "lines"] []
  f_check_parts : Addr
  d_check_parts : FuncData
  F_check_parts : Fun K "check_parts" "check_parts" s_check_parts f_check_parts d_check_parts
  g_check_parts : mg "check_parts" = some (.ref f_check_parts)
  b_check_parts : Binds K d_check_parts ["parts", "count"] []
  f_Search_init : Addr
  d_Search_init : FuncData
  F_Search_init : Fun K "__init__" "Search.__init__" s_Search_init f_Search_init d_Search_init
  b_Search_init : Binds K d_Search_init ["self", "weights", "wishes", "lines"] []
  f_Search_worst_line : Addr
  d_Search_worst_line : FuncData
  F_Search_worst_line : Fun K "worst_line" "Search.worst_line" s_Search_worst_line f_Search_worst_line d_Search_worst_line
  b_Search_worst_line : Binds K d_Search_worst_line ["self"] []
  f_Search_raise_line : Addr
  d_Search_raise_line : FuncData
  F_Search_raise_line : Fun K "raise_line" "Search.raise_line" s_Search_raise_line f_Search_raise_line d_Search_raise_line
  b_Search_raise_line : Binds K d_Search_raise_line ["self", "line"] []
  f_Search_forces : Addr
  d_Search_forces : FuncData
  F_Search_forces : Fun K "forces" "Search.forces" s_Search_forces f_Search_forces d_Search_forces
  b_Search_forces : Binds K d_Search_forces ["self"] []
  f_scale_of : Addr
  d_scale_of : FuncData
  F_scale_of : Fun K "scale_of" "scale_of" s_scale_of f_scale_of d_scale_of
  g_scale_of : mg "scale_of" = some (.ref f_scale_of)
  b_scale_of : Binds K d_scale_of ["parts"] []
  f_whole_factors : Addr
  d_whole_factors : FuncData
  F_whole_factors : Fun K "whole_factors" "whole_factors" s_whole_factors f_whole_factors d_whole_factors
  g_whole_factors : mg "whole_factors" = some (.ref f_whole_factors)
  b_whole_factors : Binds K d_whole_factors ["parts", "scale"] []
  f_is_sized : Addr
  d_is_sized : FuncData
  F_is_sized : Fun K "is_sized" "is_sized" s_is_sized f_is_sized d_is_sized
  g_is_sized : mg "is_sized" = some (.ref f_is_sized)
  b_is_sized : Binds K d_is_sized ["size"] []
  f_ends_of : Addr
  d_ends_of : FuncData
  F_ends_of : Fun K "ends_of" "ends_of" s_ends_of f_ends_of d_ends_of
  g_ends_of : mg "ends_of" = some (.ref f_ends_of)
  b_ends_of : Binds K d_ends_of ["box"] []
  f_gap_of_ends : Addr
  d_gap_of_ends : FuncData
  F_gap_of_ends : Fun K "gap_of_ends" "gap_of_ends" s_gap_of_ends f_gap_of_ends d_gap_of_ends
  g_gap_of_ends : mg "gap_of_ends" = some (.ref f_gap_of_ends)
  b_gap_of_ends : Binds K d_gap_of_ends ["one", "other"] []
  f_ends_overlap : Addr
  d_ends_overlap : FuncData
  tc_ends_overlap : Addr
  tp_ends_overlap : Addr
  tb_ends_overlap : GxR.TabB base mg tc_ends_overlap tp_ends_overlap
  F_ends_overlap : PL.FunC K "ends_overlap" "ends_overlap" s_ends_overlap f_ends_overlap d_ends_overlap tc_ends_overlap
  g_ends_overlap : mg "ends_overlap" = some (.ref f_ends_overlap)
  b_ends_overlap : Binds K d_ends_overlap ["one", "other"] []
  f_check_state : Addr
  d_check_state : FuncData
  F_check_state : Fun K "check_state" "check_state" s_check_state f_check_state d_check_state
  g_check_state : mg "check_state" = some (.ref f_check_state)
  b_check_state : Binds K d_check_state ["state"] []
  f_check_bodies : Addr
  d_check_bodies : FuncData
  F_check_bodies : Fun K "check_bodies" "check_bodies" s_check_bodies f_check_bodies d_check_bodies
  g_check_bodies : mg "check_bodies" = some (.ref f_check_bodies)
  b_check_bodies : Binds K d_check_bodies ["bodies"] []
  f_is_body_sound : Addr
  d_is_body_sound : FuncData
  F_is_body_sound : Fun K "is_body_sound" "is_body_sound" s_is_body_sound f_is_body_sound d_is_body_sound
  g_is_body_sound : mg "is_body_sound" = some (.ref f_is_body_sound)
  b_is_body_sound : Binds K d_is_body_sound ["body"] []
  f_check_overlaps : Addr
  d_check_overlaps : FuncData
  F_check_overlaps : Fun K "check_overlaps" "check_overlaps" s_check_overlaps f_check_overlaps d_check_overlaps
  g_check_overlaps : mg "check_overlaps" = some (.ref f_check_overlaps)
  b_check_overlaps : Binds K d_check_overlaps ["bodies"] []
  f_check_joint : Addr
  d_check_joint : FuncData
  F_check_joint : Fun K "check_joint" "check_joint" s_check_joint f_check_joint d_check_joint
  g_check_joint : mg "check_joint" = some (.ref f_check_joint)
  b_check_joint : Binds K d_check_joint ["places", "joint"] []
  f_joint_way : Addr
  d_joint_way : FuncData
  F_joint_way : Fun K "joint_way" "joint_way" s_joint_way f_joint_way d_joint_way
  g_joint_way : mg "joint_way" = some (.ref f_joint_way)
  b_joint_way : Binds K d_joint_way ["places", "joint"] []
  f_is_moving : Addr
  d_is_moving : FuncData
  F_is_moving : Fun K "is_moving" "is_moving" s_is_moving f_is_moving d_is_moving
  g_is_moving : mg "is_moving" = some (.ref f_is_moving)
  b_is_moving : Binds K d_is_moving ["body"] []
  f_are_moving_names : Addr
  d_are_moving_names : FuncData
  F_are_moving_names : Fun K "are_moving_names" "are_moving_names" s_are_moving_names f_are_moving_names d_are_moving_names
  g_are_moving_names : mg "are_moving_names" = some (.ref f_are_moving_names)
  b_are_moving_names : Binds K d_are_moving_names ["bodies", "names"] []
  f_box_of_body : Addr
  d_box_of_body : FuncData
  F_box_of_body : Fun K "box_of_body" "box_of_body" s_box_of_body f_box_of_body d_box_of_body
  g_box_of_body : mg "box_of_body" = some (.ref f_box_of_body)
  b_box_of_body : Binds K d_box_of_body ["body"] []
  f_places_of : Addr
  d_places_of : FuncData
  F_places_of : Fun K "places_of" "places_of" s_places_of f_places_of d_places_of
  g_places_of : mg "places_of" = some (.ref f_places_of)
  b_places_of : Binds K d_places_of ["bodies"] []
  f_check_pushes : Addr
  d_check_pushes : FuncData
  F_check_pushes : Fun K "check_pushes" "check_pushes" s_check_pushes f_check_pushes d_check_pushes
  g_check_pushes : mg "check_pushes" = some (.ref f_check_pushes)
  b_check_pushes : Binds K d_check_pushes ["state", "pushes"] []
  f_check_pushed : Addr
  d_check_pushed : FuncData
  F_check_pushed : Fun K "check_pushed" "check_pushed" s_check_pushed f_check_pushed d_check_pushed
  g_check_pushed : mg "check_pushed" = some (.ref f_check_pushed)
  b_check_pushed : Binds K d_check_pushed ["state", "pushes"] []
  f_plain_rows : Addr
  d_plain_rows : FuncData
  F_plain_rows : Fun K "plain_rows" "plain_rows" s_plain_rows f_plain_rows d_plain_rows
  g_plain_rows : mg "plain_rows" = some (.ref f_plain_rows)
  b_plain_rows : Binds K d_plain_rows ["state", "pushes"] []
  f_full_rows : Addr
  d_full_rows : FuncData
  F_full_rows : Fun K "full_rows" "full_rows" s_full_rows f_full_rows d_full_rows
  g_full_rows : mg "full_rows" = some (.ref f_full_rows)
  b_full_rows : Binds K d_full_rows ["state", "pushes"] []
  f_items_of : Addr
  d_items_of : FuncData
  F_items_of : Fun K "items_of" "items_of" s_items_of f_items_of d_items_of
  g_items_of : mg "items_of" = some (.ref f_items_of)
  b_items_of : Binds K d_items_of ["state", "pushes"] []
  f_free_speed : Addr
  d_free_speed : FuncData
  F_free_speed : Fun K "free_speed" "free_speed" s_free_speed f_free_speed d_free_speed
  g_free_speed : mg "free_speed" = some (.ref f_free_speed)
  b_free_speed : Binds K d_free_speed ["body", "pull", "push"] []
  f_pairs_of : Addr
  d_pairs_of : FuncData
  F_pairs_of : Fun K "pairs_of" "pairs_of" s_pairs_of f_pairs_of d_pairs_of
  g_pairs_of : mg "pairs_of" = some (.ref f_pairs_of)
  b_pairs_of : Binds K d_pairs_of ["items"] []
  f_gap_of_items : Addr
  d_gap_of_items : FuncData
  F_gap_of_items : Fun K "gap_of_items" "gap_of_items" s_gap_of_items f_gap_of_items d_gap_of_items
  g_gap_of_items : mg "gap_of_items" = some (.ref f_gap_of_items)
  b_gap_of_items : Binds K d_gap_of_items ["one", "other", "axis"] []
  f_in_line : Addr
  d_in_line : FuncData
  F_in_line : Fun K "in_line" "in_line" s_in_line f_in_line d_in_line
  g_in_line : mg "in_line" = some (.ref f_in_line)
  b_in_line : Binds K d_in_line ["one", "other", "axis"] []
  f_end_gap : Addr
  d_end_gap : FuncData
  F_end_gap : Fun K "end_gap" "end_gap" s_end_gap f_end_gap d_end_gap
  g_end_gap : mg "end_gap" = some (.ref f_end_gap)
  b_end_gap : Binds K d_end_gap ["one", "other", "axis"] []
  f_axis_of_items : Addr
  d_axis_of_items : FuncData
  F_axis_of_items : Fun K "axis_of_items" "axis_of_items" s_axis_of_items f_axis_of_items d_axis_of_items
  g_axis_of_items : mg "axis_of_items" = some (.ref f_axis_of_items)
  b_axis_of_items : Binds K d_axis_of_items ["one", "other"] []
  f_rows_of_items : Addr
  d_rows_of_items : FuncData
  F_rows_of_items : Fun K "rows_of_items" "rows_of_items" s_rows_of_items f_rows_of_items d_rows_of_items
  g_rows_of_items : mg "rows_of_items" = some (.ref f_rows_of_items)
  b_rows_of_items : Binds K d_rows_of_items ["one", "other"] []
  f_parts_of : Addr
  d_parts_of : FuncData
  tc_parts_of : Addr
  tp_parts_of : Addr
  tb_parts_of : GxR.TabB base mg tc_parts_of tp_parts_of
  F_parts_of : PL.FunC K "parts_of" "parts_of" s_parts_of f_parts_of d_parts_of tc_parts_of
  ln_parts_of : PL.Nm.nm tp_parts_of = ("parts_of" : Str) ++ (".<locals>." : Str) ++ ("<lambda>" : Str)
  g_parts_of : mg "parts_of" = some (.ref f_parts_of)
  b_parts_of : Binds K d_parts_of ["terms"] []
  f_rows_of_joints : Addr
  d_rows_of_joints : FuncData
  F_rows_of_joints : Fun K "rows_of_joints" "rows_of_joints" s_rows_of_joints f_rows_of_joints d_rows_of_joints
  g_rows_of_joints : mg "rows_of_joints" = some (.ref f_rows_of_joints)
  b_rows_of_joints : Binds K d_rows_of_joints ["state"] []
  f_spots_of : Addr
  d_spots_of : FuncData
  F_spots_of : Fun K "spots_of" "spots_of" s_spots_of f_spots_of d_spots_of
  g_spots_of : mg "spots_of" = some (.ref f_spots_of)
  b_spots_of : Binds K d_spots_of ["state"] []
  f_task_of : Addr
  d_task_of : FuncData
  F_task_of : Fun K "task_of" "task_of" s_task_of f_task_of d_task_of
  g_task_of : mg "task_of" = some (.ref f_task_of)
  b_task_of : Binds K d_task_of ["state", "pushes", "rows"] []
  f_lines_of_rows : Addr
  d_lines_of_rows : FuncData
  F_lines_of_rows : Fun K "lines_of_rows" "lines_of_rows" s_lines_of_rows f_lines_of_rows d_lines_of_rows
  g_lines_of_rows : mg "lines_of_rows" = some (.ref f_lines_of_rows)
  b_lines_of_rows : Binds K d_lines_of_rows ["state", "rows"] []
  f_settle : Addr
  d_settle : FuncData
  F_settle : Fun K "settle" "settle" s_settle f_settle d_settle
  g_settle : mg "settle" = some (.ref f_settle)
  b_settle : Binds K d_settle ["state", "pushes"] []
  f_speeds_at : Addr
  d_speeds_at : FuncData
  F_speeds_at : Fun K "speeds_at" "speeds_at" s_speeds_at f_speeds_at d_speeds_at
  g_speeds_at : mg "speeds_at" = some (.ref f_speeds_at)
  b_speeds_at : Binds K d_speeds_at ["state", "point"] []
  f_tick : Addr
  d_tick : FuncData
  F_tick : Fun K "tick" "tick" s_tick f_tick d_tick
  g_tick : mg "tick" = some (.ref f_tick)
  b_tick : Binds K d_tick ["state", "pushes"] []
  f_ticked : Addr
  d_ticked : FuncData
  F_ticked : Fun K "ticked" "ticked" s_ticked f_ticked d_ticked
  g_ticked : mg "ticked" = some (.ref f_ticked)
  b_ticked : Binds K d_ticked ["state", "pushes"] []
  f_with_speeds : Addr
  d_with_speeds : FuncData
  F_with_speeds : Fun K "with_speeds" "with_speeds" s_with_speeds f_with_speeds d_with_speeds
  g_with_speeds : mg "with_speeds" = some (.ref f_with_speeds)
  b_with_speeds : Binds K d_with_speeds ["state", "speeds"] []
  f_law_begin : Addr
  d_law_begin : FuncData
  F_law_begin : Fun K "_law_begin" "_law_begin" s_law_begin f_law_begin d_law_begin
  g_law_begin : mg "_law_begin" = some (.ref f_law_begin)
  b_law_begin : Binds K d_law_begin ["script"] []
  f_law_take : Addr
  d_law_take : FuncData
  F_law_take : Fun K "_law_take" "_law_take" s_law_take f_law_take d_law_take
  g_law_take : mg "_law_take" = some (.ref f_law_take)
  b_law_take : Binds K d_law_take ["d", "many"] []
  f_law_signed : Addr
  d_law_signed : FuncData
  F_law_signed : Fun K "_law_signed" "_law_signed" s_law_signed f_law_signed d_law_signed
  g_law_signed : mg "_law_signed" = some (.ref f_law_signed)
  b_law_signed : Binds K d_law_signed ["d", "most"] []
  f_law_gcd : Addr
  d_law_gcd : FuncData
  F_law_gcd : Fun K "_law_gcd" "_law_gcd" s_law_gcd f_law_gcd d_law_gcd
  g_law_gcd : mg "_law_gcd" = some (.ref f_law_gcd)
  b_law_gcd : Binds K d_law_gcd ["a", "b"] []
  f_law_f : Addr
  d_law_f : FuncData
  F_law_f : Fun K "_law_f" "_law_f" s_law_f f_law_f d_law_f
  g_law_f : mg "_law_f" = some (.ref f_law_f)
  b_law_f : Binds K d_law_f ["a", "b"] []
  f_law_plus : Addr
  d_law_plus : FuncData
  F_law_plus : Fun K "_law_plus" "_law_plus" s_law_plus f_law_plus d_law_plus
  g_law_plus : mg "_law_plus" = some (.ref f_law_plus)
  b_law_plus : Binds K d_law_plus ["a", "b"] []
  f_law_minus : Addr
  d_law_minus : FuncData
  F_law_minus : Fun K "_law_minus" "_law_minus" s_law_minus f_law_minus d_law_minus
  g_law_minus : mg "_law_minus" = some (.ref f_law_minus)
  b_law_minus : Binds K d_law_minus ["a", "b"] []
  f_law_less : Addr
  d_law_less : FuncData
  F_law_less : Fun K "_law_less" "_law_less" s_law_less f_law_less d_law_less
  g_law_less : mg "_law_less" = some (.ref f_law_less)
  b_law_less : Binds K d_law_less ["a", "b"] []
  f_law_part : Addr
  d_law_part : FuncData
  F_law_part : Fun K "_law_part" "_law_part" s_law_part f_law_part d_law_part
  g_law_part : mg "_law_part" = some (.ref f_law_part)
  b_law_part : Binds K d_law_part ["d", "most"] []
  f_law_vector : Addr
  d_law_vector : FuncData
  F_law_vector : Fun K "_law_vector" "_law_vector" s_law_vector f_law_vector d_law_vector
  g_law_vector : mg "_law_vector" = some (.ref f_law_vector)
  b_law_vector : Binds K d_law_vector ["d", "most"] []
  f_law_told : Addr
  d_law_told : FuncData
  F_law_told : Fun K "_law_told" "_law_told" s_law_told f_law_told d_law_told
  g_law_told : mg "_law_told" = some (.ref f_law_told)
  b_law_told : Binds K d_law_told ["which", "a", "b", "c", "line", "n"] []
  f_law_walk : Addr
  d_law_walk : FuncData
  F_law_walk : Fun K "_law_walk" "_law_walk" s_law_walk f_law_walk d_law_walk
  g_law_walk : mg "_law_walk" = some (.ref f_law_walk)
  b_law_walk : Binds K d_law_walk ["place", "speed", "pull", "n"] []
  f_law_cross : Addr
  d_law_cross : FuncData
  F_law_cross : Fun K "_law_cross" "_law_cross" s_law_cross f_law_cross d_law_cross
  g_law_cross : mg "_law_cross" = some (.ref f_law_cross)
  b_law_cross : Binds K d_law_cross ["rows", "line"] []
  f_law : Addr
  d_law : FuncData
  F_law : Fun K "law" "law" s_law f_law d_law
  g_law : mg "law" = some (.ref f_law)
  b_law : Binds K d_law ["script"] []
  C_Search : Addr
  gC_Search : mg "Search" = some (.ref C_Search)
  cl_Search : Cls K C_Search
  mk_Search : Mk K C_Search f_Search_init
  na_Search_point : NoAttr K C_Search "point"
  na_Search_scales : NoAttr K C_Search "scales"
  na_Search_factors : NoAttr K C_Search "factors"
  na_Search_edges : NoAttr K C_Search "edges"
  na_Search_weights : NoAttr K C_Search "weights"
  na_Search_groups : NoAttr K C_Search "groups"
  na_Search_amounts : NoAttr K C_Search "amounts"
  me_Search_worst_line : Meth K C_Search "worst_line" f_Search_worst_line
  me_Search_raise_line : Meth K C_Search "raise_line" f_Search_raise_line
  me_Search_forces : Meth K C_Search "forces" f_Search_forces
  k_ZERO : Addr
  gk_ZERO : mg "ZERO" = some (.ref k_ZERO)
  dk_ZERO : ∀ G, SqT K G k_ZERO [.int (0), .int (1)]
  k_ONE : Addr
  gk_ONE : mg "ONE" = some (.ref k_ONE)
  dk_ONE : ∀ G, SqT K G k_ONE [.int (1), .int (1)]
  t_FLIGHT_LIMIT : Tok
  gk_FLIGHT_LIMIT : mg "FLIGHT_LIMIT" = some (.int 1000000 t_FLIGHT_LIMIT)
  t_COORDINATE_LIMIT : Tok
  gk_COORDINATE_LIMIT : mg "COORDINATE_LIMIT" = some (.int 60 t_COORDINATE_LIMIT)
  t_LINE_LIMIT : Tok
  gk_LINE_LIMIT : mg "LINE_LIMIT" = some (.int 1000 t_LINE_LIMIT)
  t_BODY_LIMIT : Tok
  gk_BODY_LIMIT : mg "BODY_LIMIT" = some (.int 24 t_BODY_LIMIT)
  t_JOINT_LIMIT : Tok
  gk_JOINT_LIMIT : mg "JOINT_LIMIT" = some (.int 24 t_JOINT_LIMIT)
  t_MASS_LIMIT : Tok
  gk_MASS_LIMIT : mg "MASS_LIMIT" = some (.int 1000 t_MASS_LIMIT)
  t_NAME_LIMIT : Tok
  gk_NAME_LIMIT : mg "NAME_LIMIT" = some (.int 999999999 t_NAME_LIMIT)
  k_GRIP_LIMIT : Addr
  gk_GRIP_LIMIT : mg "GRIP_LIMIT" = some (.ref k_GRIP_LIMIT)
  dk_GRIP_LIMIT : ∀ G, SqT K G k_GRIP_LIMIT [.int (4), .int (1)]
  k_STANDING : Addr
  gk_STANDING : mg "STANDING" = some (.ref k_STANDING)
  dk_STANDING : ∀ G, Dp K G (.ref k_STANDING) (.tuple [.tuple [.int (0), .int (1)], .tuple [.int (0), .int (1)]])
  k_MINUS_ONE : Addr
  gk_MINUS_ONE : mg "MINUS_ONE" = some (.ref k_MINUS_ONE)
  dk_MINUS_ONE : ∀ G, SqT K G k_MINUS_ONE [.int (-1), .int (1)]
  c_ZeroDenominator : Addr
  gc_ZeroDenominator : mg "ZeroDenominator" = some (.ref c_ZeroDenominator)
  xc_ZeroDenominator : PySem.W.excIn K c_ZeroDenominator [.type "ValueError", .type "Exception", .type "BaseException", .type "object"] "ValueError.__new__" = true
  kc_ZeroDenominator : PySem.W.keepIn K (.ref c_ZeroDenominator) = true
  bc_ZeroDenominator : PySem.W.subIn K (.ref c_ZeroDenominator) (.type "BaseException") = some true
  tc_ZeroDenominator : PySem.W.typeIn K (.ref c_ZeroDenominator) = some (.type "type")
  hc_ZeroDenominator : PySem.W.hasDictIn K c_ZeroDenominator = true
  c_TooLarge : Addr
  gc_TooLarge : mg "TooLarge" = some (.ref c_TooLarge)
  xc_TooLarge : PySem.W.excIn K c_TooLarge [.type "ValueError", .type "Exception", .type "BaseException", .type "object"] "ValueError.__new__" = true
  kc_TooLarge : PySem.W.keepIn K (.ref c_TooLarge) = true
  bc_TooLarge : PySem.W.subIn K (.ref c_TooLarge) (.type "BaseException") = some true
  tc_TooLarge : PySem.W.typeIn K (.ref c_TooLarge) = some (.type "type")
  hc_TooLarge : PySem.W.hasDictIn K c_TooLarge = true
  c_BodyError : Addr
  gc_BodyError : mg "BodyError" = some (.ref c_BodyError)
  xc_BodyError : PySem.W.excIn K c_BodyError [.type "ValueError", .type "Exception", .type "BaseException", .type "object"] "ValueError.__new__" = true
  kc_BodyError : PySem.W.keepIn K (.ref c_BodyError) = true
  bc_BodyError : PySem.W.subIn K (.ref c_BodyError) (.type "BaseException") = some true
  tc_BodyError : PySem.W.typeIn K (.ref c_BodyError) = some (.type "type")
  hc_BodyError : PySem.W.hasDictIn K c_BodyError = true
  c_OverlapError : Addr
  gc_OverlapError : mg "OverlapError" = some (.ref c_OverlapError)
  xc_OverlapError : PySem.W.excIn K c_OverlapError [.type "ValueError", .type "Exception", .type "BaseException", .type "object"] "ValueError.__new__" = true
  kc_OverlapError : PySem.W.keepIn K (.ref c_OverlapError) = true
  bc_OverlapError : PySem.W.subIn K (.ref c_OverlapError) (.type "BaseException") = some true
  tc_OverlapError : PySem.W.typeIn K (.ref c_OverlapError) = some (.type "type")
  hc_OverlapError : PySem.W.hasDictIn K c_OverlapError = true
  c_JointError : Addr
  gc_JointError : mg "JointError" = some (.ref c_JointError)
  xc_JointError : PySem.W.excIn K c_JointError [.type "ValueError", .type "Exception", .type "BaseException", .type "object"] "ValueError.__new__" = true
  kc_JointError : PySem.W.keepIn K (.ref c_JointError) = true
  bc_JointError : PySem.W.subIn K (.ref c_JointError) (.type "BaseException") = some true
  tc_JointError : PySem.W.typeIn K (.ref c_JointError) = some (.type "type")
  hc_JointError : PySem.W.hasDictIn K c_JointError = true
  c_PushError : Addr
  gc_PushError : mg "PushError" = some (.ref c_PushError)
  xc_PushError : PySem.W.excIn K c_PushError [.type "ValueError", .type "Exception", .type "BaseException", .type "object"] "ValueError.__new__" = true
  kc_PushError : PySem.W.keepIn K (.ref c_PushError) = true
  bc_PushError : PySem.W.subIn K (.ref c_PushError) (.type "BaseException") = some true
  tc_PushError : PySem.W.typeIn K (.ref c_PushError) = some (.type "type")
  hc_PushError : PySem.W.hasDictIn K c_PushError = true
  c_RowError : Addr
  gc_RowError : mg "RowError" = some (.ref c_RowError)
  xc_RowError : PySem.W.excIn K c_RowError [.type "ValueError", .type "Exception", .type "BaseException", .type "object"] "ValueError.__new__" = true
  kc_RowError : PySem.W.keepIn K (.ref c_RowError) = true
  bc_RowError : PySem.W.subIn K (.ref c_RowError) (.type "BaseException") = some true
  tc_RowError : PySem.W.typeIn K (.ref c_RowError) = some (.type "type")
  hc_RowError : PySem.W.hasDictIn K c_RowError = true
  c_TickError : Addr
  gc_TickError : mg "TickError" = some (.ref c_TickError)
  xc_TickError : PySem.W.excIn K c_TickError [.type "ValueError", .type "Exception", .type "BaseException", .type "object"] "ValueError.__new__" = true
  kc_TickError : PySem.W.keepIn K (.ref c_TickError) = true
  bc_TickError : PySem.W.subIn K (.ref c_TickError) (.type "BaseException") = some true
  tc_TickError : PySem.W.typeIn K (.ref c_TickError) = some (.type "type")
  hc_TickError : PySem.W.hasDictIn K c_TickError = true
  ac_ZeroDenominator_ZeroDenominator : PySem.W.subIn K (.ref c_ZeroDenominator) (.ref c_ZeroDenominator) = some true
  ac_TooLarge_TooLarge : PySem.W.subIn K (.ref c_TooLarge) (.ref c_TooLarge) = some true
  ac_BodyError_BodyError : PySem.W.subIn K (.ref c_BodyError) (.ref c_BodyError) = some true
  ac_OverlapError_OverlapError : PySem.W.subIn K (.ref c_OverlapError) (.ref c_OverlapError) = some true
  ac_JointError_JointError : PySem.W.subIn K (.ref c_JointError) (.ref c_JointError) = some true
  ac_PushError_PushError : PySem.W.subIn K (.ref c_PushError) (.ref c_PushError) = some true
  ac_RowError_RowError : PySem.W.subIn K (.ref c_RowError) (.ref c_RowError) = some true
  ac_TickError_TickError : PySem.W.subIn K (.ref c_TickError) (.ref c_TickError) = some true
  n_abs : mg "abs" = none
  n_all : mg "all" = none
  n_any : mg "any" = none
  n_dict : mg "dict" = none
  n_enumerate : mg "enumerate" = none
  n_int : mg "int" = none
  n_len : mg "len" = none
  n_list : mg "list" = none
  n_max : mg "max" = none
  n_min : mg "min" = none
  n_range : mg "range" = none
  n_sorted : mg "sorted" = none
  n_sum : mg "sum" = none
  n_tuple : mg "tuple" = none
  n_zip : mg "zip" = none
  n_gcd : mg "gcd" = some (.builtin "math.gcd")
  n_lcm : mg "lcm" = some (.builtin "math.lcm")
/-- the tables of code objects that are written -/
abbrev Top.tabs {K : PySem.W.Frag} {mg : Str → Option Value} {base : Heap} (Tp : Top K mg base) : PL.Tbs := ⟨[Tp.tp_check_task, Tp.tp_ends_overlap], [Tp.tp_parts_of]⟩
def ROver (C : Addr) (ds : List Dat) (r : Res) : Prop := ∃ a b : F, ds = [.d (fr a), .d (fr b)] ∧ PL.Ok 4000 a ∧ PL.Ok 4000 b ∧ ((b.1 ≠ 0 ∧ r = .ok (.d (fr (overM a b)))) ∨ (b.1 = 0 ∧ r = .err C))
theorem ok_inv {n : Nat} {b : F} (hb : PL.Ok n b) (h : b.1 ≠ 0) : PL.Ok n (invM b) := ⟨inv_nrm hb.nrm h, by
  unfold invM
  split
  · exact ⟨sz_neg hb.sz.2, sz_neg hb.sz.1⟩
  · exact ⟨hb.sz.2, hb.sz.1⟩⟩
def RCmp (ds : List Dat) (d : Dat) : Prop := ∃ a b : F, ds = [.d (fr a), .d (fr b)] ∧ PL.Ok 4000 a ∧ PL.Ok 4000 b ∧ d = .i (cmpM a b)
theorem less_cmp (w b : F) : less w b = decide (cmpM w b < 0) := by
  unfold less cmpM
  split
  · rename_i c
    rw [decide_eq_true c]
    rfl
  · rename_i c
    rw [decide_eq_false c]
    split <;> rfl
theorem more_cmp (w b : F) : more w b = decide (0 < cmpM w b) := by
  unfold more less cmpM
  split
  · rename_i c
    rw [decide_eq_false (by omega)]
    rfl
  · split
    · rename_i c
      rw [decide_eq_true c]
      rfl
    · rename_i c
      rw [decide_eq_false c]
      rfl
def RBest (f : F → F → Bool) (ds : List Dat) (d : Dat) : Prop := ∃ (x : F) (xs : List F), ds = [.t (fr x :: xs.map fr)] ∧ (∀ y ∈ x :: xs, PL.Ok 4000 y) ∧ d = .d (fr (bestL f x (x :: xs)))
def RLess (ds : List Dat) (d : Dat) : Prop := ∃ a b : F, ds = [.d (fr a), .d (fr b)] ∧ PL.Ok 4000 a ∧ PL.Ok 4000 b ∧ d = .b (less a b)
/-- boxes -/
structure Bx where
  p0 : F
  p1 : F
  s0 : F
  s1 : F
abbrev bxd (b : Bx) : PyData := .tuple [.tuple [fr b.p0, fr b.p1], .tuple [fr b.s0, fr b.s1]]
abbrev vcd (a b : F) : PyData := .tuple [fr a, fr b]
def Bx.sized (b : Bx) : Bool := decide (0 < b.s0.1) && decide (0 < b.s1.1)
def RSized (ds : List Dat) (d : Dat) : Prop := ∃ a b : F, ds = [.t [fr a, fr b]] ∧ d = .b (decide (0 < a.1) && decide (0 < b.1))
def REnds (ds : List Dat) (d : Dat) : Prop := ∃ b : Bx, ds = [.d (bxd b)] ∧ PL.Ok 4000 b.p0 ∧ PL.Ok 4000 b.p1 ∧ PL.Ok 4000 b.s0 ∧ PL.Ok 4000 b.s1 ∧ d = .t [vcd b.p0 (plusM b.p0 b.s0), vcd b.p1 (plusM b.p1 b.s1)]
theorem ok_c0 {n : Nat} (h : 2 ≤ n) : PL.Ok n ((0, 1) : F) := PL.Ok.mono (m := 2) ⟨⟨by decide, by decide⟩, ⟨by decide, by decide⟩⟩ h
structure AxSz (a : Ax) : Prop where
  l : PL.Ok 401 a.l
  h : PL.Ok 401 a.h
  o : PL.Ok 200 a.o
  w : PL.Ok 200 a.w
theorem AxSz.ok {a : Ax} (s : AxSz a) : a.Ok := ⟨s.l.nrm, s.h.nrm, s.o.nrm, s.w.nrm⟩
theorem s_seqX {K : PySem.W.Frag} {ρ : Rho} {I : Asn} {ts us : TS} {k : Out} {α : Type} (W : α → Prop) (P : α → Rho) (V : α → Asn) (h : ∃ a, W a ∧ S K ts ρ I (.nx (P a) (V a))) (h2 : ∀ a, W a → S K us (P a) (V a) k) : S K (tSeq ts us) ρ I k := h.elim fun a z => s_seq z.2 (h2 a z.1)
structure SxSz (a : Sx) : Prop where
  la : PL.Ok 100 a.la
  sa : PL.Ok 100 a.sa
  va : PL.Ok 100 a.va
  lb : PL.Ok 100 a.lb
  sb : PL.Ok 100 a.sb
  vb : PL.Ok 100 a.vb
theorem SxSz.ok {a : Sx} (s : SxSz a) : a.Ok := ⟨s.la.nrm, s.sa.nrm, s.va.nrm, s.lb.nrm, s.sb.nrm, s.vb.nrm⟩
theorem SxSz.ha {a : Sx} (s : SxSz a) : PL.Ok 201 (plusM a.la a.sa) := PL.ok_plus s.la s.sa
theorem SxSz.hb {a : Sx} (s : SxSz a) : PL.Ok 201 (plusM a.lb a.sb) := PL.ok_plus s.lb s.sb
theorem SxSz.lo {a : Sx} (s : SxSz a) : PL.Ok 302 a.lo := PL.ok_minus s.la s.hb
theorem SxSz.hi {a : Sx} (s : SxSz a) : PL.Ok 302 a.hi := PL.ok_minus s.ha s.lb
theorem SxSz.w {a : Sx} (s : SxSz a) : PL.Ok 201 a.w := PL.ok_minus s.vb s.va
/-- a box with ends below 2 ^ 1500 -/
structure BxSz (b : Bx) : Prop where
  p0 : PL.Ok 1500 b.p0
  p1 : PL.Ok 1500 b.p1
  s0 : PL.Ok 100 b.s0
  s1 : PL.Ok 100 b.s1
/-- a box with parts below 2 ^ 1500 -/
structure Bz (b : Bx) : Prop where
  p0 : PL.Ok 1500 b.p0
  p1 : PL.Ok 1500 b.p1
  s0 : PL.Ok 1500 b.s0
  s1 : PL.Ok 1500 b.s1
theorem Bz.h0 {b : Bx} (h : Bz b) : PL.Ok 4000 (plusM b.p0 b.s0) := (PL.ok_plus h.p0 h.s0).mono (by decide)
theorem Bz.h1 {b : Bx} (h : Bz b) : PL.Ok 4000 (plusM b.p1 b.s1) := (PL.ok_plus h.p1 h.s1).mono (by decide)
def lt0 (i j : Int) : Bool := decide (i < j)
def pairM (f : Int → Int → Bool) (a b : Bx) : Bool := (f (cmpM b.p0 (plusM a.p0 a.s0)) 0 && f (cmpM a.p0 (plusM b.p0 b.s0)) 0) && (f (cmpM b.p1 (plusM a.p1 a.s1)) 0 && f (cmpM a.p1 (plusM b.p1 b.s1)) 0)
theorem gen_two (x y : Bool) : genB true [(true, x), (true, y)] = (x && y) := by cases x <;> cases y <;> rfl
def RPairs (f : Int → Int → Bool) (ds : List Dat) (d : Dat) : Prop := ∃ a b : Bx, ds = [.t [vcd a.p0 (plusM a.p0 a.s0), vcd a.p1 (plusM a.p1 a.s1)], .t [vcd b.p0 (plusM b.p0 b.s0), vcd b.p1 (plusM b.p1 b.s1)]] ∧ Bz a ∧ Bz b ∧ d = .b (pairM f a b)
theorem two_in {n : Nat} {x y : F} (hx : PL.Ok n x) (hy : PL.Ok n y) : ∀ z ∈ x :: [y], PL.Ok n z := fun z hz => by
  rcases List.mem_cons.mp hz with rfl | hz
  · exact hx
  · rw [List.mem_singleton.mp hz]
    exact hy
theorem mn_in {n : Nat} {x y : F} (hx : PL.Ok n x) (hy : PL.Ok n y) : PL.Ok n (mn x y) := by
  rcases mn_eq x y hx.nrm.1 hy.nrm.1 with ⟨e, _⟩ | ⟨e, _⟩ <;> rw [e]
  · exact hx
  · exact hy
theorem mx_in {n : Nat} {x y : F} (hx : PL.Ok n x) (hy : PL.Ok n y) : PL.Ok n (mx x y) := by
  rcases mx_eq x y hx.nrm.1 hy.nrm.1 with ⟨e, _⟩ | ⟨e, _⟩ <;> rw [e]
  · exact hx
  · exact hy
theorem BxSz.bz {b : Bx} (h : BxSz b) : Bz b := ⟨h.p0, h.p1, h.s0.mono (by decide), h.s1.mono (by decide)⟩
def RGapE (ds : List Dat) (d : Dat) : Prop := ∃ la ha lb hb : F, ds = [.d (vcd la ha), .d (vcd lb hb)] ∧ PL.Ok 1500 la ∧ PL.Ok 1601 ha ∧ PL.Ok 1500 lb ∧ PL.Ok 1601 hb ∧ d = .d (fr (mx (minusM lb ha) (minusM la hb)))
def gapX (a b : Bx) (k : Int) : F := if k = 0 then mx (minusM b.p0 (plusM a.p0 a.s0)) (minusM a.p0 (plusM b.p0 b.s0)) else mx (minusM b.p1 (plusM a.p1 a.s1)) (minusM a.p1 (plusM b.p1 b.s1))
structure Bd where
  nm : Int
  bx : Bx
  ms : Int
  gr : F
  v0 : F
  v1 : F
abbrev bdD (b : Bd) : PyData := .tuple [.int b.nm, .tuple [fr b.bx.p0, fr b.bx.p1], .tuple [fr b.bx.s0, fr b.bx.s1], .int b.ms, fr b.gr, .tuple [fr b.v0, fr b.v1]]
structure BdOk (b : Bd) : Prop where
  bx : BxSz b.bx
  gr : PL.Ok 100 b.gr
  v0 : PL.Ok 1000 b.v0
  v1 : PL.Ok 1000 b.v1
structure Jt where
  a : Int
  b : Int
  k : Int
  lo : F
  hi : F
abbrev jtD (j : Jt) : PyData := .tuple [.int j.a, .int j.b, .int j.k, fr j.lo, fr j.hi]
structure JtOk (j : Jt) : Prop where
  lo : PL.Ok 3500 j.lo
  hi : PL.Ok 3500 j.hi
theorem ok_c4 : PL.Ok 3 ((4, 1) : F) := ⟨⟨by decide, by decide⟩, ⟨by decide, by decide⟩⟩
abbrev endD (b : Bx) : PyData := .tuple [vcd b.p0 (plusM b.p0 b.s0), vcd b.p1 (plusM b.p1 b.s1)]
def RBoxOf (ds : List Dat) (d : Dat) : Prop := ∃ b : Bd, ds = [.d (bdD b)] ∧ d = .d (bxd b.bx)
def soundM (b : Bd) : Bool := !(!b.bx.sized || (decide (b.ms < 0) || decide (1000 < b.ms))) && (!(decide (cmpM b.gr (0, 1) < 0) || decide (0 < cmpM b.gr (4, 1))) && (decide (0 < b.ms) || PyData.eqv (vcd b.v0 b.v1) (vcd (0, 1) (0, 1))))
def RSound (ds : List Dat) (d : Dat) : Prop := ∃ b : Bd, ds = [.d (bdD b)] ∧ BdOk b ∧ d = .b (soundM b)
def bad1 (bf : Int) (b : Bd) : Bool := decide (999999999 < b.nm) || (decide (b.nm ≤ bf) || !soundM b)
def badB : Int → List Bd → Bool
  | _, [] => false
  | bf, b :: bs => bad1 bf b || badB b.nm bs
def RBods (C : Addr) (ds : List Dat) (r : Res) : Prop := ∃ bs : List Bd, ds = [.t (bs.map bdD)] ∧ (∀ b ∈ bs, BdOk b) ∧ ((badB (-1) bs = false ∧ r = .ok (.d .none)) ∨ (badB (-1) bs = true ∧ r = .err C))
def ovB : List Bx → Bool
  | [] => false
  | b :: bs => bs.any (pairM lt0 b) || ovB bs
def ROvl (C : Addr) (ds : List Dat) (r : Res) : Prop := ∃ bs : List Bd, ds = [.t (bs.map bdD)] ∧ (∀ b ∈ bs, BdOk b) ∧ bs.length ≤ 100000 ∧ ((ovB (bs.map (·.bx)) = false ∧ r = .ok (.d .none)) ∨ (ovB (bs.map (·.bx)) = true ∧ r = .err C))
theorem drop_at {bs : List Bd} {i j : Nat} {y : Bd} (h : bs[i + j]? = some y) : at0 ((bs.map fun z => endD z.bx).drop i) j = endD y.bx := by
  unfold at0
  rw [List.getD_eq_getElem?_getD, List.getElem?_drop, List.getElem?_map, h]
  rfl
theorem s_lessN2 {K : PySem.W.Frag} {ρ ρ' : Rho} {I : Asn} {ts : TS} {k : Out} (e : ρ = ρ') (h : S K ts ρ' I k) : S K ts ρ I k := e ▸ h
def fnd (bs : List Bd) (n : Int) : Option Bd := bs.find? fun b => decide (b.nm = n)
theorem fnd_mem {bs : List Bd} {n : Int} {x : Bd} (h : fnd bs n = some x) : x ∈ bs := List.mem_of_find?_eq_some h
def plcM (bs : List Bd) : List (Key × PyData) := kvsOf (bs.map (·.nm)) (bs.map fun b => vcd b.bx.p0 b.bx.p1)
theorem plc_get {bs : List Bd} {n : Int} : valD (plcM bs) (.inl n) = (fnd bs n).map fun b => vcd b.bx.p0 b.bx.p1 := by
  induction bs with
  | nil => rfl
  | cons b bs ih =>
    show valD ((.inl b.nm, vcd b.bx.p0 b.bx.p1) :: plcM bs) (.inl n) = _
    unfold valD fnd at *
    by_cases c : b.nm = n
    · rw [List.find?_cons_of_pos (by simpa using c), List.find?_cons_of_pos (by simpa using c)]
      rfl
    · rw [List.find?_cons_of_neg (by simpa using c), List.find?_cons_of_neg (by simpa using c)]
      exact ih
def RPlaces (ds : List Dat) (d : Dat) : Prop := ∃ bs : List Bd, ds = [.t (bs.map bdD)] ∧ (bs.map (·.nm)).Nodup ∧ bs.length ≤ 100000 ∧ d = .k (plcM bs)
def wayM (x y : Bd) (k : Int) : F := if k = 0 then minusM y.bx.p0 x.bx.p0 else minusM y.bx.p1 x.bx.p1
theorem way_ok {x y : Bd} {k : Int} (hx : BdOk x) (hy : BdOk y) : PL.Ok 4000 (wayM x y k) := by
  unfold wayM
  split
  · exact (PL.ok_minus hy.bx.p0 hx.bx.p0).mono (by decide)
  · exact (PL.ok_minus hy.bx.p1 hx.bx.p1).mono (by decide)
def RWay (ds : List Dat) (d : Dat) : Prop := ∃ (bs : List Bd) (j : Jt) (x y : Bd), ds = [.k (plcM bs), .d (jtD j)] ∧ fnd bs j.a = some x ∧ fnd bs j.b = some y ∧ (j.k = 0 ∨ j.k = 1) ∧ BdOk x ∧ BdOk y ∧ d = .d (fr (wayM x y j.k))
def jbad (bs : List Bd) (j : Jt) : Bool := match fnd bs j.a, fnd bs j.b with
  | some x, some y => decide (j.a = j.b) || ((!(decide (j.k = 0) || decide (j.k = 1)) || decide (0 < cmpM j.lo j.hi)) || (decide (cmpM (wayM x y j.k) j.lo < 0) || decide (0 < cmpM (wayM x y j.k) j.hi)))
  | _, _ => true
theorem jbad_no {bs : List Bd} {j : Jt} (h : jbad bs j = false) : ∃ x y, fnd bs j.a = some x ∧ fnd bs j.b = some y ∧ j.a ≠ j.b ∧ ((j.k = 0 ∨ j.k = 1) ∧ (!(decide (j.k = 0) || decide (j.k = 1)) || decide (0 < cmpM j.lo j.hi)) = false) ∧ (decide (cmpM (wayM x y j.k) j.lo < 0) || decide (0 < cmpM (wayM x y j.k) j.hi)) = false := by
  unfold jbad at h
  cases e1 : fnd bs j.a with
  | none => rw [e1] at h; cases h
  | some x =>
    cases e2 : fnd bs j.b with
    | none => rw [e1, e2] at h; cases h
    | some y =>
      rw [e1, e2] at h
      have h : (decide (j.a = j.b) || ((!(decide (j.k = 0) || decide (j.k = 1)) || decide (0 < cmpM j.lo j.hi)) || (decide (cmpM (wayM x y j.k) j.lo < 0) || decide (0 < cmpM (wayM x y j.k) j.hi)))) = false := h
      rw [Bool.or_eq_false_iff, Bool.or_eq_false_iff] at h
      refine ⟨x, y, rfl, rfl, by simpa using h.1, ⟨?_, h.2.1⟩, h.2.2⟩
      have := h.2.1
      rw [Bool.or_eq_false_iff] at this
      exact Classical.or_iff_not_imp_left.mpr (by simpa using this.1)
def RJoint (C : Addr) (ds : List Dat) (r : Res) : Prop := ∃ (bs : List Bd) (j : Jt), ds = [.k (plcM bs), .d (jtD j)] ∧ (∀ b ∈ bs, BdOk b) ∧ JtOk j ∧ ((jbad bs j = false ∧ r = .ok (.d .none)) ∨ (jbad bs j = true ∧ r = .err C))
theorem jbad_yes {bs : List Bd} {a b k : Int} {lo hi : F} {x y : Bd} (fa : fnd bs a = some x) (fb : fnd bs b = some y) (h : jbad bs ⟨a, b, k, lo, hi⟩ = true) : (decide (a = b) || ((!(decide (k = 0) || decide (k = 1)) || decide (0 < cmpM lo hi)) || (decide (cmpM (wayM x y k) lo < 0) || decide (0 < cmpM (wayM x y k) hi)))) = true := by
  unfold jbad at h
  dsimp only at h
  rw [fa, fb] at h
  exact h
structure Sta where
  bs : List Bd
  js : List Jt
  u0 : F
  u1 : F
abbrev stD (s : Sta) : PyData := .tuple [.tuple (s.bs.map bdD), .tuple (s.js.map jtD), vcd s.u0 s.u1]
structure StaOk (s : Sta) : Prop where
  bs : ∀ b ∈ s.bs, BdOk b
  js : ∀ j ∈ s.js, JtOk j
  len : s.bs.length ≤ 100000
  u0 : PL.Ok 100 s.u0
  u1 : PL.Ok 100 s.u1
theorem badB_asc {bs : List Bd} : ∀ {bf : Int}, badB bf bs = false → (∀ b ∈ bs, bf < b.nm) ∧ (bs.map (·.nm)).Nodup := by
  induction bs with
  | nil => exact fun _ => ⟨fun b h => by simp at h, List.nodup_nil⟩
  | cons b bs ih =>
    intro bf h
    have h : (bad1 bf b || badB b.nm bs) = false := h
    rw [Bool.or_eq_false_iff] at h
    obtain ⟨i1, i2⟩ := ih h.2
    have h1 := h.1
    unfold bad1 at h1
    rw [Bool.or_eq_false_iff, Bool.or_eq_false_iff, decide_eq_false_iff_not, decide_eq_false_iff_not] at h1
    have lt : bf < b.nm := by omega
    refine ⟨fun y hy => ?_, ?_⟩
    · rcases List.mem_cons.mp hy with rfl | hy
      · exact lt
      · have := i1 y hy
        omega
    · rw [List.map_cons, List.nodup_cons]
      refine ⟨fun z => ?_, i2⟩
      obtain ⟨y, hy, e⟩ := List.mem_map.mp z
      have := i1 y hy
      omega
def largeM (s : Sta) : Bool := decide (24 < ((s.bs.length : Nat) : Int)) || decide (24 < ((s.js.length : Nat) : Int))
def chkM (s : Sta) : Nat := if largeM s = true then 1 else if badB (-1) s.bs = true then 2 else if ovB (s.bs.map (·.bx)) = true then 3 else if s.js.any (jbad s.bs) = true then 4 else 0
theorem chk_0 {s : Sta} (h : chkM s = 0) : largeM s = false ∧ badB (-1) s.bs = false ∧ ovB (s.bs.map (·.bx)) = false ∧ s.js.any (jbad s.bs) = false := by
  unfold chkM at h
  split at h
  · cases h
  split at h
  · cases h
  split at h
  · cases h
  split at h
  · cases h
  rename_i a b c d
  exact ⟨Bool.eq_false_iff.mpr a, Bool.eq_false_iff.mpr b, Bool.eq_false_iff.mpr c, Bool.eq_false_iff.mpr d⟩
theorem chk_1 {s : Sta} (h : chkM s = 1) : largeM s = true := by
  unfold chkM at h
  split at h
  · assumption
  split at h
  · cases h
  split at h
  · cases h
  split at h <;> cases h
theorem chk_2 {s : Sta} (h : chkM s = 2) : largeM s = false ∧ badB (-1) s.bs = true := by
  unfold chkM at h
  split at h
  · cases h
  split at h
  · rename_i a b
    exact ⟨Bool.eq_false_iff.mpr a, b⟩
  split at h
  · cases h
  split at h <;> cases h
theorem chk_3 {s : Sta} (h : chkM s = 3) : largeM s = false ∧ badB (-1) s.bs = false ∧ ovB (s.bs.map (·.bx)) = true := by
  unfold chkM at h
  split at h
  · cases h
  split at h
  · cases h
  split at h
  · rename_i a b c
    exact ⟨Bool.eq_false_iff.mpr a, Bool.eq_false_iff.mpr b, c⟩
  split at h <;> cases h
theorem chk_4 {s : Sta} (h : chkM s = 4) : largeM s = false ∧ badB (-1) s.bs = false ∧ ovB (s.bs.map (·.bx)) = false ∧ s.js.any (jbad s.bs) = true := by
  unfold chkM at h
  split at h
  · cases h
  split at h
  · cases h
  split at h
  · cases h
  split at h
  · rename_i a b c d
    exact ⟨Bool.eq_false_iff.mpr a, Bool.eq_false_iff.mpr b, Bool.eq_false_iff.mpr c, d⟩
  · cases h
def RChk (CL CB CO CJ : Addr) (ds : List Dat) (r : Res) : Prop := ∃ st : Sta, ds = [.d (stD st)] ∧ StaOk st ∧ ((chkM st = 0 ∧ r = .ok (.d .none)) ∨ (chkM st = 1 ∧ r = .err CL) ∨ (chkM st = 2 ∧ r = .err CB) ∨ (chkM st = 3 ∧ r = .err CO) ∨ (chkM st = 4 ∧ r = .err CJ))
theorem BxSz.nrm {b : Bx} (h : BxSz b) : Nrm b.p0 ∧ Nrm b.p1 ∧ Nrm b.s0 ∧ Nrm b.s1 := ⟨h.p0.nrm, h.p1.nrm, h.s0.nrm, h.s1.nrm⟩
theorem _root_.FR.Sm.ok {D B k : Nat} {a : F} (h : Sm D B a) (hD : 0 < D) (hk : D < 2 ^ k) (hb : B * D < 2 ^ k) : PL.Ok k a := ⟨h.nrm, h.sz hD hk hb⟩
theorem sm_lf {D B : Nat} {x y : Int} (hy : 0 < y) (hd : ((D : Int)) % y = 0) (hb : x.natAbs ≤ B * y.natAbs) : Sm D B (lf x y) := Sm.lf hy (Int.dvd_of_emod_eq_zero hd) hb
theorem part_sm {C : DS} {m : Nat} (h : DOk C) (hm : m ≤ 1000) : DOk (partM C (m : Nat)).2 ∧ Sm 6 (2 * m) (partM C (m : Nat)).1 := by
  obtain ⟨h1, h2, h3⟩ := take_ok (C := C) (m := 2 * ((m : Int) * 2) + 1) h (by omega)
  obtain ⟨h4, h5, h6⟩ := take_ok (C := (take C (2 * ((m : Int) * 2) + 1)).2) (m := 3) h1 (by omega)
  refine ⟨h4, sm_lf (by omega) ?_ ?_⟩
  · have e : (take (take C (2 * ((m : Int) * 2) + 1)).2 3).1 = 0 ∨ (take (take C (2 * ((m : Int) * 2) + 1)).2 3).1 = 1 ∨ (take (take C (2 * ((m : Int) * 2) + 1)).2 3).1 = 2 := by omega
    rcases e with e | e | e <;> rw [e] <;> decide
  · have : ((take C (2 * ((m : Int) * 2) + 1)).1 - (m : Int) * 2).natAbs ≤ 2 * m := by omega
    have e : 1 ≤ (1 + (take (take C (2 * ((m : Int) * 2) + 1)).2 3).1).natAbs := by omega
    exact Nat.le_trans this (Nat.le_mul_of_pos_right _ e)
theorem vec_sm {C : DS} {m : Nat} (h : DOk C) (hm : m ≤ 1000) : DOk (vecM C (m : Nat)).2 ∧ Sm 6 (2 * m) (vecM C (m : Nat)).1.1 ∧ Sm 6 (2 * m) (vecM C (m : Nat)).1.2 :=
  ⟨(part_sm (part_sm h hm).1 hm).1, (part_sm h hm).2, (part_sm (part_sm h hm).1 hm).2⟩
structure BN (n : Nat) (b : Bx) : Prop where
  p0 : Sm 6 n b.p0
  p1 : Sm 6 n b.p1
  s0 : Sm 2 6 b.s0
  s1 : Sm 2 6 b.s1
structure B20 (b : Bx) : Prop where
  p0 : PL.Ok 20 b.p0
  p1 : PL.Ok 20 b.p1
  s0 : PL.Ok 20 b.s0
  s1 : PL.Ok 20 b.s1
theorem BN.mono {m n : Nat} {b : Bx} (h : BN m b) (hm : m ≤ n) : BN n b := ⟨h.p0.up hm, h.p1.up hm, h.s0, h.s1⟩
theorem BN.o {n : Nat} {b : Bx} (h : BN n b) (hn : n ≤ 10000) : B20 b := ⟨h.p0.ok (by decide) (by decide) (by omega), h.p1.ok (by decide) (by decide) (by omega), h.s0.ok (by decide) (by decide) (by decide), h.s1.ok (by decide) (by decide) (by decide)⟩
theorem BN.sz {n : Nat} {b : Bx} (h : BN n b) (hn : n ≤ 10000) : BxSz b := ⟨(h.o hn).p0.mono (by decide), (h.o hn).p1.mono (by decide), (h.o hn).s0.mono (by decide), (h.o hn).s1.mono (by decide)⟩
theorem BN.h0 {n : Nat} {b : Bx} (h : BN n b) : Sm 6 (n + 6) (plusM b.p0 b.s0) := h.p0.plus (h.s0.mono (by decide) (Nat.le_refl _))
theorem BN.h1 {n : Nat} {b : Bx} (h : BN n b) : Sm 6 (n + 6) (plusM b.p1 b.s1) := h.p1.plus (h.s1.mono (by decide) (Nat.le_refl _))
structure BdM (n : Nat) (b : Bd) : Prop where
  bx : BN n b.bx
  sz : b.bx.sized = true
  gr : Sm 2 2 b.gr
  v0 : Sm 6 6 b.v0
  v1 : Sm 6 6 b.v1
  ms : b.ms ≤ 4
theorem BdM.mono {m n : Nat} {b : Bd} (h : BdM m b) (hm : m ≤ n) : BdM n b := ⟨h.bx.mono hm, h.sz, h.gr, h.v0, h.v1, h.ms⟩
theorem BdM.ok {n : Nat} {b : Bd} (h : BdM n b) (hn : n ≤ 10000) : BdOk b := ⟨h.bx.sz hn, h.gr.ok (by decide) (by decide) (by decide), h.v0.ok (by decide) (by decide) (by decide), h.v1.ok (by decide) (by decide) (by decide)⟩
structure BSt where
  bs : List Bd
  nm : Int
  C : DS
def BSt.W (i : Nat) (a : BSt) : Prop := DOk a.C ∧ a.bs.length ≤ i ∧ (0 < i → a.bs ≠ []) ∧ (∀ b ∈ a.bs, BdM (10 + 6 * i) b ∧ b.nm < a.nm) ∧ 0 ≤ a.nm ∧ a.nm ≤ 2 + 3 * (i : Nat) ∧ badB (-1) a.bs = false ∧ ovB (a.bs.map (·.bx)) = false
structure JtN (j : Jt) : Prop where
  lo : Sm 6 802 j.lo
  hi : Sm 6 802 j.hi
  k : j.k = 0 ∨ j.k = 1
structure JSt where
  js : List Jt
  C : DS
def JSt.W (bs : List Bd) (i : Nat) (a : JSt) : Prop := DOk a.C ∧ a.js.length ≤ i ∧ (∀ j ∈ a.js, JtN j) ∧ a.js.any (jbad bs) = false
def RScale (ds : List Dat) (d : Dat) : Prop := ∃ a b c : F, ds = [.t [fr a, fr b], .d (fr c)] ∧ PL.Ok 1000 a ∧ PL.Ok 1000 b ∧ PL.Ok 1000 c ∧ d = .t [fr (timesM a c), fr (timesM b c)]
def RMoving (ds : List Dat) (d : Dat) : Prop := ∃ b : Bd, ds = [.d (bdD b)] ∧ d = .b (decide (0 < b.ms))
/-- pushes: names and vectors -/
abbrev Pu := Int × (F × F)
abbrev puD (z : Pu) : PyData := .tuple [.int z.1, vcd z.2.1 z.2.2]
def movM (bs : List Bd) : List (Key × PyData) := PL.kvsOf (bs.map (·.nm)) (bs.map fun b => .bool (decide (0 < b.ms)))
def movB (bs : List Bd) (n : Int) : Bool := ((fnd bs n).map fun b => decide (0 < b.ms)).getD false
theorem mov_get {bs : List Bd} {n : Int} : (valD (movM bs) (.inl n)).getD (.bool false) = .bool (movB bs n) := by
  have e : valD (movM bs) (.inl n) = (fnd bs n).map fun b => PyData.bool (decide (0 < b.ms)) := by
    induction bs with
    | nil => rfl
    | cons b bs ih =>
      show valD ((.inl b.nm, .bool (decide (0 < b.ms))) :: movM bs) (.inl n) = _
      unfold valD fnd at *
      by_cases c : b.nm = n
      · rw [List.find?_cons_of_pos (by simpa using c), List.find?_cons_of_pos (by simpa using c)]
        rfl
      · rw [List.find?_cons_of_neg (by simpa using c), List.find?_cons_of_neg (by simpa using c)]
        exact ih
  rw [e]
  unfold movB
  cases fnd bs n <;> rfl
def badN (bs : List Bd) : Int → List Int → Bool
  | _, [] => false
  | bf, z :: rest => (decide (z ≤ bf) || !movB bs z) || badN bs z rest
abbrev badP (bs : List Bd) (bf : Int) (ps : List Pu) : Bool := badN bs bf (ps.map (·.1))
def RMovN (ds : List Dat) (d : Dat) : Prop := ∃ (bs : List Bd) (ns : List Int), ds = [.t (bs.map bdD), .d (.list (ns.map PyData.int))] ∧ (bs.map (·.nm)).Nodup ∧ bs.length ≤ 100000 ∧ d = .b (!badN bs (-1) ns)
def RPushed (C : Addr) (ds : List Dat) (r : Res) : Prop := ∃ (st : Sta) (ps : List Pu), ds = [.d (stD st), .t (ps.map puD)] ∧ (st.bs.map (·.nm)).Nodup ∧ st.bs.length ≤ 100000 ∧ ps.length ≤ 100000 ∧ ((badP st.bs (-1) ps = false ∧ r = .ok (.d .none)) ∨ (badP st.bs (-1) ps = true ∧ r = .err C))
def chkE (CL CB CO CJ : Addr) (s : Sta) (C : Addr) : Prop := (chkM s = 1 ∧ C = CL) ∨ (chkM s = 2 ∧ C = CB) ∨ (chkM s = 3 ∧ C = CO) ∨ (chkM s = 4 ∧ C = CJ)
theorem chk_any {CL CB CO CJ C : Addr} {s : Sta} (h : chkE CL CB CO CJ s C) : (chkM s = 0 ∧ Res.err C = .ok (.d .none)) ∨ (chkM s = 1 ∧ Res.err C = .err CL) ∨ (chkM s = 2 ∧ Res.err C = .err CB) ∨ (chkM s = 3 ∧ Res.err C = .err CO) ∨ (chkM s = 4 ∧ Res.err C = .err CJ) := by
  rcases h with ⟨a, rfl⟩ | ⟨a, rfl⟩ | ⟨a, rfl⟩ | ⟨a, rfl⟩
  · exact .inr (.inl ⟨a, rfl⟩)
  · exact .inr (.inr (.inl ⟨a, rfl⟩))
  · exact .inr (.inr (.inr (.inl ⟨a, rfl⟩)))
  · exact .inr (.inr (.inr (.inr ⟨a, rfl⟩)))
def RPushes (CL CB CO CJ CP : Addr) (ds : List Dat) (r : Res) : Prop := ∃ (st : Sta) (ps : List Pu), ds = [.d (stD st), .t (ps.map puD)] ∧ StaOk st ∧ ps.length ≤ 100000 ∧ ((chkM st = 0 ∧ badP st.bs (-1) ps = false ∧ r = .ok (.d .none)) ∨ (chkM st = 0 ∧ badP st.bs (-1) ps = true ∧ r = .err CP) ∨ ∃ C, chkE CL CB CO CJ st C ∧ r = .err C)
/-- the least common denominator -/
def denM (ts : List F) : Nat := ts.foldl (fun c t => Nat.lcm c t.2.natAbs) 1
def RDen (ds : List Dat) (d : Dat) : Prop := ∃ ts : List F, ds = [.d (.list (ts.map fr))] ∧ (∀ t ∈ ts, PL.Ok 110 t) ∧ ts.length ≤ 60 ∧ d = .i (denM ts : Nat)
theorem ok_one {m : Int} (h : 0 < m) (hm : m ≤ 1000) : PL.Ok 12 ((1, m) : F) := ⟨⟨h, by simp [Int.gcd]⟩, ⟨by show (1 : Int).natAbs < 2 ^ 12; decide, by show m.natAbs < 2 ^ 12; omega⟩⟩
def freeV (b : Bd) (a0 a1 p0 p1 : F) : F × F := if 0 < b.ms then (plusM b.v0 (plusM a0 (timesM p0 (1, b.ms))), plusM b.v1 (plusM a1 (timesM p1 (1, b.ms)))) else (b.v0, b.v1)
def RFree (ds : List Dat) (d : Dat) : Prop := ∃ (b : Bd) (a0 a1 p0 p1 : F), ds = [.d (bdD b), .d (vcd a0 a1), .d (vcd p0 p1)] ∧ PL.Ok 1000 b.v0 ∧ PL.Ok 1000 b.v1 ∧ PL.Ok 100 a0 ∧ PL.Ok 100 a1 ∧ PL.Ok 1000 p0 ∧ PL.Ok 1000 p1 ∧ b.ms ≤ 1000 ∧ d = .d (vcd (freeV b a0 a1 p0 p1).1 (freeV b a0 a1 p0 p1).2)
def pushOf (ps : List Pu) (n : Int) : F × F := ((ps.find? fun z => decide (z.1 = n)).map (·.2)).getD ((0, 1), (0, 1))
def freeOf (st : Sta) (ps : List Pu) (b : Bd) : F × F := freeV b st.u0 st.u1 (pushOf ps b.nm).1 (pushOf ps b.nm).2
abbrev kps (ps : List Pu) : List (Int × PyData) := ps.map fun z => (z.1, vcd z.2.1 z.2.2)
theorem pu_pr (ps : List Pu) : ps.map puD = (kps ps).map prV := by rw [List.map_map]; rfl
theorem push_get {ps : List Pu} {n : Int} : (valD ((kps ps).map prK) (.inl n)).getD (vcd (0, 1) (0, 1)) = vcd (pushOf ps n).1 (pushOf ps n).2 := by
  have e : valD ((kps ps).map prK) (.inl n) = (ps.find? fun z => decide (z.1 = n)).map fun z => vcd z.2.1 z.2.2 := by
    induction ps with
    | nil => rfl
    | cons b bs ih =>
      show valD ((.inl b.1, vcd b.2.1 b.2.2) :: (kps bs).map prK) (.inl n) = _
      unfold valD at *
      by_cases c : b.1 = n
      · rw [List.find?_cons_of_pos (by simpa using c), List.find?_cons_of_pos (by simpa using c)]
        rfl
      · rw [List.find?_cons_of_neg (by simpa using c), List.find?_cons_of_neg (by simpa using c)]
        exact ih
  rw [e]
  unfold pushOf
  cases ps.find? fun z => decide (z.1 = n) <;> rfl
/-- items: body, ends, free speed -/
structure It where
  b : Bd
  e : PyData
  v : F × F
abbrev itD (z : It) : PyData := .tuple [bdD z.b, z.e, vcd z.v.1 z.v.2]
def itM (st : Sta) (ps : List Pu) (b : Bd) : It := ⟨b, .tuple [vcd b.bx.p0 (plusM b.bx.p0 b.bx.s0), vcd b.bx.p1 (plusM b.bx.p1 b.bx.s1)], freeOf st ps b⟩
structure PuOk (st : Sta) (qs : List Pu) : Prop where
  ps : ∀ z ∈ qs, PL.Ok 1000 z.2.1 ∧ PL.Ok 1000 z.2.2
  nd : (qs.map (·.1)).Nodup
  len : st.bs.length ≤ 1000
  lp : qs.length ≤ 1000
  ms : ∀ b ∈ st.bs, b.ms ≤ 1000
theorem push_ok {ps : List Pu} (h : ∀ z ∈ ps, PL.Ok 1000 z.2.1 ∧ PL.Ok 1000 z.2.2) (n : Int) : PL.Ok 1000 (pushOf ps n).1 ∧ PL.Ok 1000 (pushOf ps n).2 := by
  unfold pushOf
  cases e : ps.find? fun z => decide (z.1 = n) with
  | none => exact ⟨ok_c0 (by decide), ok_c0 (by decide)⟩
  | some z => exact h z (List.mem_of_find?_eq_some e)
def RItems (ds : List Dat) (d : Dat) : Prop := ∃ (st : Sta) (ps : List Pu), ds = [.d (stD st), .u (ps.map puD)] ∧ StaOk st ∧ PuOk st ps ∧ d = .d (.list ((st.bs.map (itM st ps)).map itD))
/-- any two, in order -/
def prs {α : Type} : List α → List (α × α)
  | [] => []
  | x :: xs => xs.map (fun y => (x, y)) ++ prs xs
def mvg (x y : It) : Bool := decide (0 < x.b.ms) || decide (0 < y.b.ms)
def prsM (its : List It) : List (It × It) := (prs its).filter fun p => mvg p.1 p.2
abbrev prD (p : It × It) : PyData := .tuple [itD p.1, itD p.2]
def RPairsI (ds : List Dat) (d : Dat) : Prop := ∃ its : List It, ds = [.d (.list (its.map itD))] ∧ its.length ≤ 1000 ∧ d = .d (.list ((prsM its).map prD))
theorem range_get {α : Type} (d : α) : ∀ xs : List α, (List.range xs.length).map (fun j => xs.getD j d) = xs
  | [] => rfl
  | x :: xs => by
    rw [List.length_cons, List.range_succ_eq_map, List.map_cons, List.map_map]
    have := range_get d xs
    show x :: (List.range xs.length).map (fun j => xs.getD j d) = _
    rw [this]
theorem row_get {α : Type} (d : α) (q : α → Bool) (f : α → PyData) (xs : List α) : rowK (fun j => q (xs.getD j d)) (fun j => f (xs.getD j d)) xs.length = (xs.filter q).map f := by
  have e := range_get d xs
  unfold rowK
  conv => rhs; rw [← e]
  rw [List.filter_map, List.map_map]
  rfl
theorem rows_prs {α : Type} (d : α) (q : α → α → Bool) (f : α → α → PyData) : ∀ xs : List α, rowsK (fun i => (xs.drop (i + 1)).length) (fun i j => q (xs.getD i d) ((xs.drop (i + 1)).getD j d)) (fun i j => f (xs.getD i d) ((xs.drop (i + 1)).getD j d)) xs.length = ((prs xs).filter fun p => q p.1 p.2).map fun p => f p.1 p.2
  | [] => rfl
  | x :: xs => by
    have ih := rows_prs d q f xs
    unfold rowsK at *
    rw [List.length_cons, List.range_succ_eq_map, List.map_cons, List.map_map, List.flatten_cons]
    show rowK (fun j => q x (xs.getD j d)) (fun j => f x (xs.getD j d)) xs.length ++ ((List.range xs.length).map fun i => rowK (fun j => q (xs.getD i d) ((xs.drop (i + 1)).getD j d)) (fun j => f (xs.getD i d) ((xs.drop (i + 1)).getD j d)) (xs.drop (i + 1)).length).flatten = _
    rw [ih, row_get d (q x) (f x)]
    show _ = ((xs.map (fun y => (x, y)) ++ prs xs).filter fun p => q p.1 p.2).map fun p => f p.1 p.2
    rw [List.filter_append, List.map_append, List.filter_map, List.map_map]
    rfl
theorem lcm_lt2 {a b x y : Nat} (ha : a < x) (hb : b < y) : Nat.lcm a b < x * y := by
  have h0 : 0 < x * y := Nat.mul_pos (by omega) (by omega)
  by_cases h : a * b = 0
  · have : Nat.lcm a b = 0 := by
      rcases Nat.mul_eq_zero.mp h with rfl | rfl
      · exact Nat.lcm_zero_left _
      · exact Nat.lcm_zero_right _
    rw [this]
    exact h0
  · exact Nat.lt_of_le_of_lt (Nat.le_of_dvd (Nat.pos_of_ne_zero h) (Nat.lcm_dvd_mul a b)) (Nat.mul_lt_mul'' ha hb)
theorem e_iwn {K : PySem.W.Frag} {wi : TI} {ρ : Rho} {I J : Asn} {n m : Nat} {xs : Nat → PyData} (h : IW K wi ρ I n xs J) (e : n = m) : IW K wi ρ I m xs J := e ▸ h
/-! ### meetings -/
theorem den_dvd : ∀ (ts : List F) (c : Nat), c ∣ ts.foldl (fun c t => Nat.lcm c t.2.natAbs) c ∧ ∀ t ∈ ts, t.2.natAbs ∣ ts.foldl (fun c t => Nat.lcm c t.2.natAbs) c
  | [], c => ⟨Nat.dvd_refl c, fun t h => by simp at h⟩
  | x :: ts, c => by
    obtain ⟨h1, h2⟩ := den_dvd ts (Nat.lcm c x.2.natAbs)
    refine ⟨Nat.dvd_trans (Nat.dvd_lcm_left _ _) h1, fun t ht => ?_⟩
    rcases List.mem_cons.mp ht with rfl | ht
    · exact Nat.dvd_trans (Nat.dvd_lcm_right _ _) h1
    · exact h2 t ht
theorem den_pos : ∀ (ts : List F) (c : Nat), 0 < c → (∀ t ∈ ts, 0 < t.2) → 0 < ts.foldl (fun c t => Nat.lcm c t.2.natAbs) c
  | [], c, h, _ => h
  | x :: ts, c, h, hs => den_pos ts _ (Nat.lcm_pos h (by have := hs x List.mem_cons_self; omega)) fun t ht => hs t (List.mem_cons_of_mem _ ht)
theorem den_sz : ∀ (ts : List F) (c k : Nat), c < 2 ^ k → (∀ t ∈ ts, PL.Ok 110 t) → ts.foldl (fun c t => Nat.lcm c t.2.natAbs) c < 2 ^ (k + 110 * ts.length)
  | [], c, k, h, _ => h
  | x :: ts, c, k, h, hs => by
    have := den_sz ts (Nat.lcm c x.2.natAbs) (k + 110) (by rw [Nat.pow_add]; exact lcm_lt2 h (hs x List.mem_cons_self).sz.2) fun t ht => hs t (List.mem_cons_of_mem _ ht)
    rw [List.length_cons, show k + 110 * (ts.length + 1) = k + 110 + 110 * ts.length by omega]
    exact this
structure PSt where
  ps : List Pu
  C : DS
def mvN (bs : List Bd) : List Int := (bs.filter fun b => decide (0 < b.ms)).map (·.nm)
def PSt.W (bs : List Bd) (i : Nat) (a : PSt) : Prop := DOk a.C ∧ a.ps.length ≤ i ∧ (∀ z ∈ a.ps, Sm 6 8 z.2.1 ∧ Sm 6 8 z.2.2) ∧ (a.ps.map (·.1)).Sublist (mvN (bs.take i))
/-! ### insertion -/
/-! ### pairs -/
theorem prs_mem {α : Type} {p : α × α} : ∀ {l : List α}, p ∈ prs l → p.1 ∈ l ∧ p.2 ∈ l
  | x :: l, h => by
    rcases List.mem_append.mp (show p ∈ l.map (fun y => (x, y)) ++ prs l from h) with h | h
    · obtain ⟨y, hy, rfl⟩ := List.mem_map.mp h
      exact ⟨List.mem_cons_self, List.mem_cons_of_mem _ hy⟩
    · exact ⟨List.mem_cons_of_mem _ (prs_mem h).1, List.mem_cons_of_mem _ (prs_mem h).2⟩
theorem prs_len {α : Type} : ∀ l : List α, (prs l).length ≤ l.length * l.length
  | [] => Nat.le_refl _
  | x :: l => by
    have := prs_len l
    show (l.map (fun y => (x, y)) ++ prs l).length ≤ _
    rw [List.length_append, List.length_map, List.length_cons, Nat.succ_mul, Nat.mul_succ]
    omega
theorem eqv_frd2 (a b : F) : PyData.eqv (fr a) (fr b) = decide (a = b) := by
  rw [Bool.eq_iff_iff, decide_eq_true_iff]
  have e : PyData.eqv (fr a) (fr b) = (a.1 == b.1 && (a.2 == b.2 && true)) := by simp [PyData.eqv, PyData.eqvAll]
  rw [e]
  constructor
  · intro h
    simp at h
    exact Prod.ext h.1 h.2
  · rintro rfl
    simp
/-! ### rows -/
def axv (k : Int) (v : F × F) : F := if k = 0 then v.1 else v.2
def bdK (bs : List Bd) : List (Key × PyData) := PL.kvsOf (bs.map (·.nm)) (bs.map bdD)
theorem bd_get {bs : List Bd} {n : Int} : valD (bdK bs) (.inl n) = (fnd bs n).map bdD := by
  unfold bdK
  induction bs with
  | nil => rfl
  | cons b bs ih =>
    show valD ((.inl b.nm, bdD b) :: PL.kvsOf (bs.map (·.nm)) (bs.map bdD)) (.inl n) = _
    unfold valD fnd at *
    by_cases c : b.nm = n
    · rw [List.find?_cons_of_pos (by simpa using c), List.find?_cons_of_pos (by simpa using c)]
      rfl
    · rw [List.find?_cons_of_neg (by simpa using c), List.find?_cons_of_neg (by simpa using c)]
      exact ih
theorem fnd_nm {bs : List Bd} {n : Int} {x : Bd} (h : fnd bs n = some x) : x.nm = n := by
  have := List.find?_some h
  exact of_decide_eq_true this
def loB (b : Bx) (k : Int) : F := if k = 0 then b.p0 else b.p1
def hiB (b : Bx) (k : Int) : F := if k = 0 then plusM b.p0 b.s0 else plusM b.p1 b.s1
/-- an item whose parts are small -/
structure IOk (x : It) : Prop where
  e : x.e = endD x.b.bx
  p0 : PL.Ok 100 x.b.bx.p0
  p1 : PL.Ok 100 x.b.bx.p1
  s0 : PL.Ok 100 x.b.bx.s0
  s1 : PL.Ok 100 x.b.bx.s1
  g : PL.Ok 100 x.b.gr
  v0 : PL.Ok 300 x.v.1
  v1 : PL.Ok 300 x.v.2
theorem end_at {b : Bx} {k : Int} (h : k = 0 ∨ k = 1) : atI [vcd b.p0 (plusM b.p0 b.s0), vcd b.p1 (plusM b.p1 b.s1)] k = some (vcd (loB b k) (hiB b k)) := by
  rcases h with rfl | rfl <;> rfl
theorem ax_at {k : Int} {v : F × F} (h : k = 0 ∨ k = 1) : atI [fr v.1, fr v.2] k = some (fr (axv k v)) := by
  rcases h with rfl | rfl <;> rfl
theorem gapX_lo {a b : Bx} {k : Int} (h : k = 0 ∨ k = 1) : gapX a b k = mx (minusM (loB b k) (hiB a k)) (minusM (loB a k) (hiB b k)) := by
  rcases h with rfl | rfl <;> rfl
theorem IOk.lo {x : It} (h : IOk x) (k : Int) : PL.Ok 100 (loB x.b.bx k) := by
  unfold loB
  split
  · exact h.p0
  · exact h.p1
theorem IOk.hi {x : It} (h : IOk x) (k : Int) : PL.Ok 201 (hiB x.b.bx k) := by
  unfold hiB
  split
  · exact PL.ok_plus h.p0 h.s0
  · exact PL.ok_plus h.p1 h.s1
theorem IOk.v {x : It} (h : IOk x) (k : Int) : PL.Ok 300 (axv k x.v) := by
  unfold axv
  split
  · exact h.v0
  · exact h.v1
theorem gap_ok {x y : It} (hx : IOk x) (hy : IOk y) {k : Int} (hk : k = 0 ∨ k = 1) : PL.Ok 302 (gapX x.b.bx y.b.bx k) := by
  rw [gapX_lo hk]
  exact mx_in (PL.ok_minus (hy.lo k) (hx.hi k)) (PL.ok_minus (hx.lo k) (hy.hi k))
/-- behind, in front -/
def inlM (x y : It) (k : Int) : It × It := if cmpM (hiB x.b.bx k) (loB y.b.bx k) ≤ 0 then (x, y) else (y, x)
theorem inl_ok {x y : It} (hx : IOk x) (hy : IOk y) (k : Int) : IOk (inlM x y k).1 ∧ IOk (inlM x y k).2 := by
  unfold inlM
  split
  · exact ⟨hx, hy⟩
  · exact ⟨hy, hx⟩
def egM (x y : It) (k : Int) : F := plusM (gapX x.b.bx y.b.bx k) (minusM (axv k (inlM x y k).2.v) (axv k (inlM x y k).1.v))
theorem eg_ok {x y : It} (hx : IOk x) (hy : IOk y) {k : Int} (hk : k = 0 ∨ k = 1) : PL.Ok 904 (egM x y k) := by
  obtain ⟨h1, h2⟩ := inl_ok hx hy k
  exact PL.ok_plus (gap_ok hx hy hk) (PL.ok_minus (h2.v k) (h1.v k))
def axM (x y : It) : Int := if (gapX x.b.bx y.b.bx 0).1 < 0 then 1 else if (gapX x.b.bx y.b.bx 1).1 < 0 then 0 else if 0 < cmpM (egM x y 1) (egM x y 0) then 1 else 0
theorem axM_01 (x y : It) : axM x y = 0 ∨ axM x y = 1 := by
  unfold axM
  split
  · exact .inr rfl
  · split
    · exact .inl rfl
    · split
      · exact .inr rfl
      · exact .inl rfl
def RGapI (ds : List Dat) (d : Dat) : Prop := ∃ (x y : It) (k : Int), ds = [.d (itD x), .d (itD y), .i k] ∧ IOk x ∧ IOk y ∧ (k = 0 ∨ k = 1) ∧ d = .d (fr (gapX x.b.bx y.b.bx k))
def RInl (ds : List Dat) (d : Dat) : Prop := ∃ (x y : It) (k : Int), ds = [.d (itD x), .d (itD y), .i k] ∧ IOk x ∧ IOk y ∧ (k = 0 ∨ k = 1) ∧ d = .t [itD (inlM x y k).1, itD (inlM x y k).2]
def REg (ds : List Dat) (d : Dat) : Prop := ∃ (x y : It) (k : Int), ds = [.d (itD x), .d (itD y), .i k] ∧ IOk x ∧ IOk y ∧ (k = 0 ∨ k = 1) ∧ d = .d (fr (egM x y k))
def RAxI (ds : List Dat) (d : Dat) : Prop := ∃ (x y : It), ds = [.d (itD x), .d (itD y)] ∧ IOk x ∧ IOk y ∧ d = .i (axM x y)
/-! parts -/
abbrev T3 := Bd × Int × F
abbrev tmD (z : T3) : PyData := .tuple [bdD z.1, .int z.2.1, fr z.2.2]
abbrev Pa := Int × Int × F
abbrev paD (p : Pa) : PyData := .tuple [.int p.1, .int p.2.1, fr p.2.2]
abbrev keyP (p : Pa) : Int × Int := (p.1, p.2.1)
def lePa (x y : Pa) : Bool := decide (x.1 < y.1 ∨ (x.1 = y.1 ∧ x.2.1 ≤ y.2.1))
def sortP (ps : List Pa) : List Pa := ps.mergeSort lePa
abbrev toP (z : T3) : Pa := (z.1.nm, z.2.1, z.2.2)
def partsM (ts : List T3) : List Pa := (ts.filter fun z => !decide (z.2.2 = (0, 1))).map toP
theorem sortP_perm (ps : List Pa) : (sortP ps).Perm ps := List.mergeSort_perm ps lePa
theorem sortP_up (ps : List Pa) : (sortP ps).Pairwise fun x y => lePa x y = true := List.pairwise_mergeSort (fun a b c h1 h2 => by
  simp only [lePa, decide_eq_true_iff] at h1 h2 ⊢
  omega) (fun a b => by
  simp only [lePa, Bool.or_eq_true, decide_eq_true_iff]
  omega) ps
def RParts (ds : List Dat) (d : Dat) : Prop := ∃ ts : List T3, ds = [.d (.list (ts.map tmD))] ∧ ts.length ≤ 1000 ∧ ((partsM ts).map keyP).Nodup ∧ d = .t ((sortP (partsM ts)).map paD)
structure Rw where
  nm : PyData
  ps : List Pa
  bd : F
abbrev rwD (r : Rw) : PyData := .tuple [r.nm, .tuple (r.ps.map paD), fr r.bd]
def grM (x y : It) : F := mn x.b.gr y.b.gr
def tiltM (x y : It) : Bool := !decide (grM x y = (0, 1)) && (decide (gapX x.b.bx y.b.bx (axM x y) = (0, 1)) && decide ((gapX x.b.bx y.b.bx (1 - axM x y)).1 ≤ 0))
def slM (x y : It) : List F := if tiltM x y = true then [grM x y, minusM (0, 1) (grM x y)] else [(0, 1)]
def nearM (x y : It) : List T3 := [((inlM x y (axM x y)).2.b, axM x y, (1, 1)), ((inlM x y (axM x y)).1.b, axM x y, (-1, 1))]
def slidM (x y : It) (s : F) : List T3 := [((inlM x y (axM x y)).2.b, 1 - axM x y, s), ((inlM x y (axM x y)).1.b, 1 - axM x y, minusM (0, 1) s)]
def rwS (x y : It) (i : Nat) (s : F) : Rw := ⟨.tuple [.str "apart", .int x.b.nm, .int y.b.nm, .int (i : Nat)], sortP (partsM (nearM x y ++ slidM x y s)), minusM (0, 1) (gapX x.b.bx y.b.bx (axM x y))⟩
def rwGo (x y : It) : Nat → List F → List Rw
  | _, [] => []
  | i, s :: ss => rwS x y i s :: rwGo x y (i + 1) ss
def rwI (x y : It) : List Rw := rwGo x y 0 (slM x y)
theorem parts_keys {ts : List T3} (h : (ts.map fun z => (z.1.nm, z.2.1)).Nodup) : ((partsM ts).map keyP).Nodup := by
  unfold partsM
  rw [List.map_map]
  exact h.sublist (List.Sublist.map _ List.filter_sublist)
theorem four_nd {f b : Bd} {k : Int} {u v s t : F} (h : f.nm ≠ b.nm) (hk : k = 0 ∨ k = 1) : (([(f, k, u), (b, k, v), (f, 1 - k, s), (b, 1 - k, t)] : List T3).map fun z => (z.1.nm, z.2.1)).Nodup := by
  have hk2 : k ≠ 1 - k := by omega
  simp [h, hk2, hk2.symm, Ne.symm h]
theorem two_nd {f b : Bd} {k : Int} {u v : F} (h : f.nm ≠ b.nm) : (([(f, k, u), (b, k, v)] : List T3).map fun z => (z.1.nm, z.2.1)).Nodup := by
  simp [h]
theorem inl_nm {x y : It} {k : Int} (h : x.b.nm ≠ y.b.nm) : (inlM x y k).2.b.nm ≠ (inlM x y k).1.b.nm := by
  unfold inlM
  split
  · exact h.symm
  · exact h
theorem gr_ok {x y : It} (hx : IOk x) (hy : IOk y) : PL.Ok 100 (grM x y) := mn_in hx.g hy.g
theorem sl_ok {x y : It} (hx : IOk x) (hy : IOk y) : ∀ s ∈ slM x y, PL.Ok 110 s := fun s hs => by
  unfold slM at hs
  split at hs
  · rcases List.mem_cons.mp hs with rfl | hs
    · exact (gr_ok hx hy).mono (by decide)
    · rw [List.mem_singleton.mp hs]
      exact (PL.ok_minus (ok_c0 (n := 2) (by decide)) (gr_ok hx hy)).mono (by decide)
  · rw [List.mem_singleton.mp hs]
    exact ok_c0 (by decide)
theorem sl_len (x y : It) : (slM x y).length ≤ 2 := by
  unfold slM
  split
  · exact Nat.le_refl 2
  · exact (by decide : (1 : Nat) ≤ 2)
theorem rwGo_len (x y : It) : ∀ (ss : List F) (i : Nat), (rwGo x y i ss).length = ss.length
  | [], _ => rfl
  | _ :: ss, i => by
    show (rwGo x y (i + 1) ss).length + 1 = ss.length + 1
    rw [rwGo_len x y ss]
def RRowsI (ds : List Dat) (d : Dat) : Prop := ∃ (x y : It), ds = [.d (itD x), .d (itD y)] ∧ IOk x ∧ IOk y ∧ x.b.nm ≠ y.b.nm ∧ d = .l ((rwI x y).map rwD)
/-- rows of joints -/
def jrM (bs : List Bd) (n : Nat) (j : Jt) : List Rw := match fnd bs j.a, fnd bs j.b with
  | some x, some y => if 0 < x.ms ∨ 0 < y.ms then [⟨.tuple [.str "joint", .int (n : Nat), .int 0, .int 0], sortP (partsM [(y, j.k, (1, 1)), (x, j.k, (-1, 1))]), minusM j.lo (wayM x y j.k)⟩, ⟨.tuple [.str "joint", .int (n : Nat), .int 0, .int 1], sortP (partsM [(x, j.k, (1, 1)), (y, j.k, (-1, 1))]), minusM (wayM x y j.k) j.hi⟩] else []
  | _, _ => []
def jrGo (bs : List Bd) : Nat → List Jt → List Rw
  | _, [] => []
  | n, j :: js => jrM bs n j ++ jrGo bs (n + 1) js
theorem jrM_len (bs : List Bd) (n : Nat) (j : Jt) : (jrM bs n j).length ≤ 2 := by
  unfold jrM
  split
  · split
    · exact Nat.le_refl 2
    · exact Nat.zero_le _
  · exact Nat.zero_le _
theorem jrGo_len (bs : List Bd) : ∀ (js : List Jt) (n : Nat), (jrGo bs n js).length ≤ 2 * js.length
  | [], _ => Nat.le_refl _
  | j :: js, n => by
    show (jrM bs n j ++ jrGo bs (n + 1) js).length ≤ 2 * (js.length + 1)
    rw [List.length_append]
    have h1 := jrM_len bs n j
    have h2 := jrGo_len bs js (n + 1)
    omega
structure JOk (st : Sta) : Prop where
  nd : (st.bs.map (·.nm)).Nodup
  len : st.bs.length ≤ 24
  jl : st.js.length ≤ 24
  j : ∀ j ∈ st.js, ∃ x y, fnd st.bs j.a = some x ∧ fnd st.bs j.b = some y ∧ j.a ≠ j.b ∧ (j.k = 0 ∨ j.k = 1)
def RRowsJ (ds : List Dat) (d : Dat) : Prop := ∃ st : Sta, ds = [.d (stD st)] ∧ StaOk st ∧ JOk st ∧ d = .l ((jrGo st.bs 0 st.js).map rwD)
structure RKs (st : Sta) (ps : List Pu) : Prop where
  s : StaOk st
  p : PuOk st ps
  j : JOk st
  i : ∀ b ∈ st.bs, IOk (itM st ps b)
def fullM (st : Sta) (ps : List Pu) : List Rw := (prsM (st.bs.map (itM st ps))).flatMap (fun p => rwI p.1 p.2) ++ jrGo st.bs 0 st.js
def fixB (bs : List Bd) (n : Int) : Bool := bs.any fun b => decide (b.nm = n) && !decide (0 < b.ms)
def cutR (bs : List Bd) (r : Rw) : Rw := ⟨r.nm, r.ps.filter fun p => !fixB bs p.1, r.bd⟩
def plainM (st : Sta) (ps : List Pu) : List Rw := (fullM st ps).map (cutR st.bs)
theorem prs_ne {α : Type} {f : α → Int} : ∀ {l : List α}, (l.map f).Nodup → ∀ p ∈ prs l, f p.1 ≠ f p.2
  | [], _, p, h => by simp [prs] at h
  | x :: l, nd, p, h => by
    rw [List.map_cons, List.nodup_cons] at nd
    rcases List.mem_append.mp (show p ∈ l.map (fun y => (x, y)) ++ prs l from h) with h | h
    · obtain ⟨y, hy, rfl⟩ := List.mem_map.mp h
      exact fun e => nd.1 (by rw [show f x = f y from e]; exact List.mem_map.mpr ⟨y, hy, rfl⟩)
    · exact prs_ne nd.2 p h
theorem prsM_ok {st : Sta} {ps : List Pu} (h : RKs st ps) : ∀ p ∈ prsM (st.bs.map (itM st ps)), IOk p.1 ∧ IOk p.2 ∧ p.1.b.nm ≠ p.2.b.nm := fun p hp => by
  have hp := (List.mem_filter.mp hp).1
  obtain ⟨m1, m2⟩ := prs_mem hp
  obtain ⟨b1, h1, e1⟩ := List.mem_map.mp m1
  obtain ⟨b2, h2, e2⟩ := List.mem_map.mp m2
  refine ⟨by rw [← e1]; exact h.i b1 h1, by rw [← e2]; exact h.i b2 h2, prs_ne (f := fun z : It => z.b.nm) ?_ p hp⟩
  rw [List.map_map]
  exact h.j.nd
theorem rwI_len (x y : It) : (rwI x y).length ≤ 2 := by
  unfold rwI
  rw [rwGo_len]
  exact sl_len x y
theorem flat_len {α β : Type} {f : α → List β} (h : ∀ a, (f a).length ≤ 2) : ∀ l : List α, (l.flatMap f).length ≤ 2 * l.length
  | [] => Nat.le_refl _
  | a :: l => by
    rw [List.flatMap_cons, List.length_append, List.length_cons]
    have := h a
    have := flat_len h l
    omega
theorem prsM_len (its : List It) (h : its.length ≤ 24) : (prsM its).length ≤ 576 := by
  have h1 : (prsM its).length ≤ (prs its).length := List.length_filter_le _ _
  have h2 := prs_len its
  have h3 : its.length * its.length ≤ 24 * 24 := Nat.mul_le_mul h h
  omega
theorem fullM_len {st : Sta} {ps : List Pu} (h : RKs st ps) : (fullM st ps).length ≤ 2000 := by
  unfold fullM
  rw [List.length_append]
  have h1 := flat_len (f := fun p : It × It => rwI p.1 p.2) (fun p => rwI_len p.1 p.2) (prsM (st.bs.map (itM st ps)))
  have h2 := prsM_len (st.bs.map (itM st ps)) (by rw [List.length_map]; exact h.j.len)
  have h3 := jrGo_len st.bs st.js 0
  have h4 := h.j.jl
  omega
def RFull (ds : List Dat) (d : Dat) : Prop := ∃ (st : Sta) (ps : List Pu), ds = [.d (stD st), .u (ps.map puD)] ∧ RKs st ps ∧ d = .l ((fullM st ps).map rwD)
def RPlainR (ds : List Dat) (d : Dat) : Prop := ∃ (st : Sta) (ps : List Pu), ds = [.d (stD st), .u (ps.map puD)] ∧ RKs st ps ∧ d = .t ((plainM st ps).map rwD)
theorem fix_get {bs : List Bd} {n : Int} : (valD ((bs.filter fun b => !decide (0 < b.ms)).map fun b => ((.inl b.nm : Key), PyData.bool true)) (.inl n)).isSome = fixB bs n := by
  induction bs with
  | nil => rfl
  | cons b bs ih =>
    unfold fixB at *
    rw [List.any_cons]
    by_cases c : 0 < b.ms
    · rw [List.filter_cons_of_neg (by simpa using c), ih, decide_eq_true c]
      simp
    · rw [List.filter_cons_of_pos (by simpa using c), List.map_cons]
      unfold valD at *
      by_cases e : b.nm = n
      · rw [List.find?_cons_of_pos (by simp [e])]
        simp [e, c]
      · rw [List.find?_cons_of_neg (by simpa using e), ih]
        simp [e]
theorem row_getK {α : Type} (d : α) (q : α → Bool) (k : α → Int) (f : α → PyData) (xs : List α) : rowD (fun j => q (xs.getD j d)) (fun j => k (xs.getD j d)) (fun j => f (xs.getD j d)) xs.length = (xs.filter q).map fun z => (.inl (k z), f z) := by
  have e := range_get d xs
  unfold rowD
  conv => rhs; rw [← e]
  rw [List.filter_map, List.map_map]
  rfl
theorem sortP_len (ps : List Pa) : (sortP ps).length = ps.length := (sortP_perm ps).length_eq
theorem partsM_len (ts : List T3) : (partsM ts).length ≤ ts.length := by
  unfold partsM
  rw [List.length_map]
  exact List.length_filter_le _ _
theorem full_small {st : Sta} {ps : List Pu} (h : RKs st ps) : ∀ r ∈ fullM st ps, r.ps.length ≤ 100000 := fun r hr => by
  rcases List.mem_append.mp hr with hr | hr
  · obtain ⟨p, _, hr⟩ := List.mem_flatMap.mp hr
    have key : ∀ (ss : List F) (i : Nat), ∀ r ∈ rwGo p.1 p.2 i ss, r.ps.length ≤ 4 := by
      intro ss
      induction ss with
      | nil => intro i r h; cases h
      | cons s ss ih =>
        intro i r h
        rcases List.mem_cons.mp h with rfl | h
        · show (sortP (partsM _)).length ≤ 4
          rw [sortP_len]
          refine Nat.le_trans (partsM_len _) ?_
          exact Nat.le_refl 4
        · exact ih _ r h
    have := key _ _ r hr
    omega
  · have key : ∀ (js : List Jt) (n : Nat), ∀ r ∈ jrGo st.bs n js, r.ps.length ≤ 2 := by
      intro js
      induction js with
      | nil => intro n r h; cases h
      | cons j js ih =>
        intro n r h
        rcases List.mem_append.mp (show r ∈ jrM st.bs n j ++ jrGo st.bs (n + 1) js from h) with h | h
        · unfold jrM at h
          split at h
          · split at h
            · rcases List.mem_cons.mp h with rfl | h
              · show (sortP (partsM _)).length ≤ 2
                rw [sortP_len]
                exact partsM_len _
              · rw [List.mem_singleton.mp h]
                show (sortP (partsM _)).length ≤ 2
                rw [sortP_len]
                exact partsM_len _
            · cases h
          · cases h
        · exact ih _ r h
    have := key _ _ r hr
    omega
/-! ### flights -/
def numsM (ts : List F) : List Int := ts.map fun t => t.1 * (((denM ts : Nat) : Int) / t.2)
def RWholeN (ds : List Dat) (d : Dat) : Prop := ∃ ts : List F, ds = [.d (.list (ts.map fr))] ∧ (∀ t ∈ ts, PL.Ok 110 t) ∧ ts.length ≤ 60 ∧ d = .d (.list ((numsM ts).map PyData.int))
structure W3 (a v u : Int) : Prop where
  a : a.natAbs < 2 ^ 600
  v : v.natAbs < 2 ^ 600
  u : u.natAbs < 2 ^ 600
theorem W3.neg {a v u : Int} (h : W3 a v u) : W3 (-a) (-v) (-u) := ⟨by rw [Int.natAbs_neg]; exact h.a, by rw [Int.natAbs_neg]; exact h.v, by rw [Int.natAbs_neg]; exact h.u⟩
def RHgt (ds : List Dat) (d : Dat) : Prop := ∃ a v u n : Int, ds = [.i a, .i v, .i u, .i n] ∧ W3 a v u ∧ 0 ≤ n ∧ n ≤ 1000000 ∧ d = .i (hgt a v u n)
def RTurn (ds : List Dat) (d : Dat) : Prop := ∃ s b : Int, ds = [.i s, .i b] ∧ 0 < b ∧ b.natAbs < 2 ^ 600 ∧ d = .i (turnM s b)
def RLast (ds : List Dat) (d : Dat) : Prop := ∃ v u m : Int, ds = [.i v, .i u, .i m] ∧ u.natAbs < 2 ^ 600 ∧ d = .i (lastM v u m)
def RFirstB (ds : List Dat) (d : Dat) : Prop := ∃ (a v u : Int) (l : Int) (r : Nat), ds = [.i a, .i v, .i u, .i l] ∧ W3 a v u ∧ 1 ≤ l ∧ l ≤ 1000000 ∧ Sgn a v u l ∧ hgt a v u l ≤ 0 ∧ 1 ≤ r ∧ r ≤ l ∧ hgt a v u r ≤ 0 ∧ (∀ k : Nat, 1 ≤ k → k < r → 0 < hgt a v u k) ∧ d = .i (r : Nat)
abbrev optI : Option Int → Dat
  | none => .d .none
  | some z => .i z
abbrev optN (o : Option Nat) : Dat := optI (o.map fun n => (n : Int))
def RTop (ds : List Dat) (d : Dat) : Prop := ∃ s w : F, ds = [.d (fr s), .d (fr w)] ∧ PL.Ok 110 s ∧ PL.Ok 110 w ∧ d = optI (topF (s.1 * (((denM [s, w] : Nat) : Int) / s.2)) (w.1 * (((denM [s, w] : Nat) : Int) / w.2)))
def flyP (p s u : F) (n : Int) : F := plusM p (plusM (timesM s (n, 1)) (timesM u (n * (n + 1) / 2, 1)))
def flyV (s u : F) (n : Int) : F := plusM s (timesM u (n, 1))
def RFly (C : Addr) (ds : List Dat) (r : Res) : Prop := ∃ (p0 p1 s0 s1 u0 u1 : F) (n : Int), ds = [.d (vcd p0 p1), .d (vcd s0 s1), .d (vcd u0 u1), .i n] ∧ PL.Ok 110 p0 ∧ PL.Ok 110 p1 ∧ PL.Ok 110 s0 ∧ PL.Ok 110 s1 ∧ PL.Ok 110 u0 ∧ PL.Ok 110 u1 ∧
  ((0 ≤ n ∧ n ≤ 1000000 ∧ r = .ok (.d (.tuple [vcd (flyP p0 s0 u0 n) (flyP p1 s1 u1 n), vcd (flyV s0 u0 n) (flyV s1 u1 n)]))) ∨ ((n < 0 ∨ 1000000 < n) ∧ r = .err C))
/-- the crossing of the line, by the fractions -/
def crossQ (p s w l : F) (m : Nat) : Option Nat := crossT ((minusM p l).1 * (((denM [minusM p l, s, w] : Nat) : Int) / (minusM p l).2)) (s.1 * (((denM [minusM p l, s, w] : Nat) : Int) / s.2)) (w.1 * (((denM [minusM p l, s, w] : Nat) : Int) / w.2)) m
def RCrossQ (C : Addr) (ds : List Dat) (r : Res) : Prop := ∃ (p s w l : F) (m : Int), ds = [.d (fr p), .d (fr s), .d (fr w), .d (fr l), .i m] ∧ PL.Ok 50 p ∧ PL.Ok 110 s ∧ PL.Ok 110 w ∧ PL.Ok 50 l ∧
  ((1 ≤ m ∧ m ≤ 1000000 ∧ r = .ok (optN (crossQ p s w l m.toNat))) ∨ ((m < 1 ∨ 1000000 < m) ∧ r = .err C))
theorem ok_whole {n : Int} {k : Nat} (h0 : 0 ≤ n) (h : n.natAbs < 2 ^ k) (hk : 1 ≤ k) : PL.Ok k ((n, 1) : F) := ⟨⟨(show (0 : Int) < 1 by decide), by simp [Int.gcd]⟩, ⟨h, Nat.lt_of_lt_of_le (by decide : (1 : Int).natAbs < 2 ^ 1) (Nat.pow_le_pow_right (by decide) hk)⟩⟩
theorem num_sz {ts : List F} (h : ∀ t ∈ ts, PL.Ok 110 t) (hl : ts.length ≤ 4) {t : F} (ht : t ∈ ts) : (t.1 * (((denM ts : Nat) : Int) / t.2)).natAbs < 2 ^ 600 := by
  have cs : denM ts < 2 ^ 441 := Nat.lt_of_lt_of_le (den_sz _ 1 1 (by decide) h) (Nat.pow_le_pow_right (by decide) (by omega))
  have hz := h t ht
  have q : (((denM ts : Nat) : Int) / t.2).natAbs < 2 ^ 441 := by
    refine Nat.lt_of_le_of_lt ?_ cs
    have := Int.natAbs_ediv_le_natAbs ((denM ts : Nat) : Int) t.2
    rw [Int.natAbs_natCast] at this
    exact this
  rw [Int.natAbs_mul]
  have := Nat.mul_lt_mul'' hz.sz.1 q
  rw [← Nat.pow_add] at this
  exact Nat.lt_of_lt_of_le this (Nat.pow_le_pow_right (by decide) (by decide))
theorem num_c {ts : List F} (h : ∀ t ∈ ts, PL.Ok 110 t) {t : F} (ht : t ∈ ts) : ((t.1 * (((denM ts : Nat) : Int) / t.2) : Int) : Rat) = (((denM ts : Nat) : Int) : Rat) * vl t := num_vl (h t ht).nrm ((den_dvd _ 1).2 _ ht)
theorem den_p {ts : List F} (h : ∀ t ∈ ts, PL.Ok 110 t) : 0 < denM ts := den_pos _ 1 (by decide) fun t ht => (h t ht).nrm.1
/-- the end of a crossing, the start above 0 -/
theorem cross_go {a v u : Int} {m : Nat} (ha : 0 < a) (hm : 1 ≤ m) : (0 < hgt a v u (lastM v u m) ∧ crossF a v u m = none) ∨ (hgt a v u (lastM v u m) ≤ 0 ∧ 1 ≤ lastM v u m ∧ ∃ r : Nat, crossF a v u m = some r ∧ 1 ≤ r ∧ (r : Int) ≤ lastM v u m ∧ hgt a v u r ≤ 0 ∧ ∀ k : Nat, 1 ≤ k → k < r → 0 < hgt a v u k) := by
  by_cases c : 0 < hgt a v u (lastM v u m)
  · exact .inl ⟨c, cross_none fun k h1 h2 => no_cross ha c k h1 h2⟩
  · have l0 := last_nn (v := v) (u := u) (m := m) (by omega)
    have l1 := last_le (v := v) (u := u) (m := m)
    have l2 : 1 ≤ lastM v u m := by
      by_cases z : lastM v u m = 0
      · rw [z, hgt_zero] at c
        omega
      · omega
    refine .inr ⟨by omega, l2, ?_⟩
    rcases cross_out (a := a) (v := v) (u := u) (m := m) with ⟨_, p⟩ | ⟨r, e, r1, r2, r0, p⟩
    · have := p (lastM v u m).toNat (by omega) (by omega)
      rw [show (((lastM v u m).toNat : Nat) : Int) = lastM v u m by omega] at this
      omega
    · refine ⟨r, e, r1, ?_, r0, p⟩
      by_cases z : (r : Int) ≤ lastM v u m
      · exact z
      · have := p (lastM v u m).toNat (by omega) (by omega)
        rw [show (((lastM v u m).toNat : Nat) : Int) = lastM v u m by omega] at this
        omega
/-! ### the nearest point where there are no lines -/
def fsS (ws : List Int) (pts : List F) : FS := setFd "amounts" (.k []) (setFd "groups" (.d (.list [])) (setFd "weights" (.t (ws.map PyData.int)) (setFd "edges" (.d (.list [])) (setFd "factors" (.d (.list [])) (setFd "scales" (.d (.list [])) (setFd "point" (.d (.list (pts.map fr))) []))))))
theorem fs_point (ws : List Int) (pts : List F) : (fsS ws pts).lookup ("point" : Str) = some (.d (.list (pts.map fr))) := by unfold fsS; rw [look_set, if_neg (by decide +kernel)]; rw [look_set, if_neg (by decide +kernel)]; rw [look_set, if_neg (by decide +kernel)]; rw [look_set, if_neg (by decide +kernel)]; rw [look_set, if_neg (by decide +kernel)]; rw [look_set, if_neg (by decide +kernel)]; rw [look_set, if_pos rfl]
theorem fs_edges (ws : List Int) (pts : List F) : (fsS ws pts).lookup ("edges" : Str) = some (.d (.list [])) := by unfold fsS; rw [look_set, if_neg (by decide +kernel)]; rw [look_set, if_neg (by decide +kernel)]; rw [look_set, if_neg (by decide +kernel)]; rw [look_set, if_pos rfl]
theorem fs_amounts (ws : List Int) (pts : List F) : (fsS ws pts).lookup ("amounts" : Str) = some (.k []) := by unfold fsS; rw [look_set, if_pos rfl]
theorem fs_m1 (ws : List Int) (pts : List F) : (fsS ws pts).lookup ("worst_line" : Str) = none := by unfold fsS; rw [look_set, if_neg (by decide +kernel)]; rw [look_set, if_neg (by decide +kernel)]; rw [look_set, if_neg (by decide +kernel)]; rw [look_set, if_neg (by decide +kernel)]; rw [look_set, if_neg (by decide +kernel)]; rw [look_set, if_neg (by decide +kernel)]; rw [look_set, if_neg (by decide +kernel)]; rfl
theorem fs_m2 (ws : List Int) (pts : List F) : (fsS ws pts).lookup ("forces" : Str) = none := by unfold fsS; rw [look_set, if_neg (by decide +kernel)]; rw [look_set, if_neg (by decide +kernel)]; rw [look_set, if_neg (by decide +kernel)]; rw [look_set, if_neg (by decide +kernel)]; rw [look_set, if_neg (by decide +kernel)]; rw [look_set, if_neg (by decide +kernel)]; rw [look_set, if_neg (by decide +kernel)]; rfl
structure Task0 (ws : List Int) (pts : List F) : Prop where
  ln : ws.length = pts.length
  le : pts.length ≤ 60
  ws : ∀ w ∈ ws, 1 ≤ w
  ok : ∀ t ∈ pts, PL.Ok 110 t
def RTask0 (ds : List Dat) (r : Res) : Prop := ∃ (ws : List Int) (pts : List F), ds = [.t (ws.map PyData.int), .t (pts.map fr), .t []] ∧ Task0 ws pts ∧ r = .ok (.d .none)
def RInit0 (ds : List Dat) (fs : FS) : Prop := ∃ (ws : List Int) (pts : List F), ds = [.t (ws.map PyData.int), .t (pts.map fr), .t []] ∧ fs = fsS ws pts
def RWorst0 (K : PySem.W.Frag) (C : Addr) (ds : List Dat) (d : Dat) : Prop := ∃ (ws : List Int) (pts : List F), ds = [oD K C (fsS ws pts)] ∧ Task0 ws pts ∧ d = .d .none
def RForces0 (K : PySem.W.Frag) (C : Addr) (ds : List Dat) (d : Dat) : Prop := ∃ (ws : List Int) (pts : List F), ds = [oD K C (fsS ws pts)] ∧ d = .t []
def RNear0 (ds : List Dat) (r : Res) : Prop := ∃ (ws : List Int) (pts : List F), ds = [.t (ws.map PyData.int), .t (pts.map fr), .t []] ∧ Task0 ws pts ∧ r = .ok (.d (.tuple [.tuple (pts.map fr), .tuple []]))
/-! ### the tick of one body alone -/
def bd1 (p0 p1 v0 v1 : F) : Bd := ⟨3, ⟨p0, p1, (1, 1), (1, 1)⟩, 2, (0, 1), v0, v1⟩
def sta1 (p0 p1 v0 v1 u0 u1 : F) : Sta := ⟨[bd1 p0 p1 v0 v1], [], u0, u1⟩
structure On1 (p0 p1 v0 v1 u0 u1 : F) : Prop where
  p0 : PL.Ok 60 p0
  p1 : PL.Ok 60 p1
  v0 : PL.Ok 60 v0
  v1 : PL.Ok 60 v1
  u0 : PL.Ok 40 u0
  u1 : PL.Ok 40 u1
def frV (v u : F) : F := plusM v (plusM u (timesM (0, 1) (1, 2)))
theorem frV_eq {v u : F} (hv : Nrm v) (hu : Nrm u) : frV v u = plusM v u := by
  have z : timesM (0, 1) (1, 2) = ((0, 1) : F) := by decide
  have n0 : Nrm ((0, 1) : F) := ⟨by decide, by decide⟩
  unfold frV
  rw [z]
  refine vl_inj (plus_nrm hv (plus_nrm hu n0)) (plus_nrm hv hu) ?_
  rw [vl_plus hv (plus_nrm hu n0), vl_plus hu n0, vl_plus hv hu, vl_zero]
  grind
theorem frV_ok {v u : F} (hv : PL.Ok 60 v) (hu : PL.Ok 40 u) : PL.Ok 101 (frV v u) := by
  rw [frV_eq hv.nrm hu.nrm]
  exact ok_plus hv hu
theorem ok_11 : PL.Ok 2 ((1, 1) : F) := ⟨⟨by decide, by decide⟩, ⟨by decide, by decide⟩⟩
theorem ok_01 : PL.Ok 2 ((0, 1) : F) := ⟨⟨by decide, by decide⟩, ⟨by decide, by decide⟩⟩
section
variable {p0 p1 v0 v1 u0 u1 : F}
theorem On1.sta (h : On1 p0 p1 v0 v1 u0 u1) : StaOk (sta1 p0 p1 v0 v1 u0 u1) := ⟨fun b hb => by
  rw [List.mem_singleton.mp hb]
  exact ⟨⟨h.p0.mono (by decide), h.p1.mono (by decide), ok_11.mono (by decide), ok_11.mono (by decide)⟩, ok_01.mono (by decide), h.v0.mono (by decide), h.v1.mono (by decide)⟩, fun j hj => (by cases hj), (by show 1 ≤ 100000; decide), h.u0.mono (by decide), h.u1.mono (by decide)⟩
theorem On1.pu (h : On1 p0 p1 v0 v1 u0 u1) : PuOk (sta1 p0 p1 v0 v1 u0 u1) [] := ⟨fun z hz => (by cases hz), List.nodup_nil, (by show 1 ≤ 1000; decide), (by show 0 ≤ 1000; decide), fun b hb => by
  rw [List.mem_singleton.mp hb]
  show (2 : Int) ≤ 1000
  decide⟩
theorem On1.rk (h : On1 p0 p1 v0 v1 u0 u1) : RKs (sta1 p0 p1 v0 v1 u0 u1) [] := ⟨h.sta, h.pu, ⟨List.nodup_cons.mpr ⟨List.not_mem_nil, List.nodup_nil⟩, (by show 1 ≤ 24; decide), (by show 0 ≤ 24; decide), fun j hj => (by cases hj)⟩, fun b hb => by
  rw [List.mem_singleton.mp hb]
  exact ⟨rfl, h.p0.mono (by decide), h.p1.mono (by decide), ok_11.mono (by decide), ok_11.mono (by decide), ok_01.mono (by decide), (frV_ok h.v0 h.u0).mono (by decide), (frV_ok h.v1 h.u1).mono (by decide)⟩⟩
theorem chk1 : chkM (sta1 p0 p1 v0 v1 u0 u1) = 0 := rfl
theorem rows1 : plainM (sta1 p0 p1 v0 v1 u0 u1) [] = [] := rfl
theorem On1.task (h : On1 p0 p1 v0 v1 u0 u1) : Task0 [2, 2] [frV v0 u0, frV v1 u1] := ⟨rfl, (by show 2 ≤ 60; decide), fun w hw => by
  have : w = 2 := by simpa using hw
  omega, fun t ht => by
  rcases List.mem_cons.mp ht with rfl | ht
  · exact (frV_ok h.v0 h.u0).mono (by decide)
  · rw [List.mem_singleton.mp ht]
    exact (frV_ok h.v1 h.u1).mono (by decide)⟩
end
def spD (P : Program) (w : World) (K : PySem.W.Frag) : Dat := xD P w K [([.inl 3, .inl 0], .int 0), ([.inl 3, .inl 1], .int 1)]
def RSpots1 (P : Program) (w : World) (K : PySem.W.Frag) (ds : List Dat) (d : Dat) : Prop := ∃ p0 p1 v0 v1 u0 u1 : F, ds = [.d (stD (sta1 p0 p1 v0 v1 u0 u1))] ∧ d = spD P w K
def RLines1 (ds : List Dat) (d : Dat) : Prop := ∃ p0 p1 v0 v1 u0 u1 : F, ds = [.d (stD (sta1 p0 p1 v0 v1 u0 u1)), .t []] ∧ d = .t []
def RTask1 (ds : List Dat) (d : Dat) : Prop := ∃ p0 p1 v0 v1 u0 u1 : F, ds = [.d (stD (sta1 p0 p1 v0 v1 u0 u1)), .u [], .t []] ∧ On1 p0 p1 v0 v1 u0 u1 ∧ d = .d (.tuple [.tuple [.int 2, .int 2], .tuple [fr (frV v0 u0), fr (frV v1 u1)], .tuple []])
def RSpeeds1 (ds : List Dat) (d : Dat) : Prop := ∃ p0 p1 v0 v1 u0 u1 f0 f1 : F, ds = [.d (stD (sta1 p0 p1 v0 v1 u0 u1)), .t [fr f0, fr f1]] ∧ d = .t [vcd f0 f1]
def RSettle1 (ds : List Dat) (r : Res) : Prop := ∃ p0 p1 v0 v1 u0 u1 : F, ds = [.d (stD (sta1 p0 p1 v0 v1 u0 u1)), .u []] ∧ On1 p0 p1 v0 v1 u0 u1 ∧ r = .ok (.d (.tuple [.tuple [vcd (frV v0 u0) (frV v1 u1)], .tuple []]))
def RWith1 (ds : List Dat) (d : Dat) : Prop := ∃ p0 p1 v0 v1 u0 u1 f0 f1 : F, ds = [.d (stD (sta1 p0 p1 v0 v1 u0 u1)), .t [vcd f0 f1]] ∧ On1 p0 p1 v0 v1 u0 u1 ∧ PL.Ok 101 f0 ∧ PL.Ok 101 f1 ∧ d = .d (stD (sta1 (plusM p0 f0) (plusM p1 f1) f0 f1 u0 u1))
def RTick1 (ds : List Dat) (r : Res) : Prop := ∃ p0 p1 v0 v1 u0 u1 : F, ds = [.d (stD (sta1 p0 p1 v0 v1 u0 u1)), .u []] ∧ On1 p0 p1 v0 v1 u0 u1 ∧ r = .ok (.d (.tuple [stD (sta1 (plusM p0 (frV v0 u0)) (plusM p1 (frV v1 u1)) (frV v0 u0) (frV v1 u1) u0 u1), .tuple []]))
/-! ### the law's walk -/
theorem sm_ok {B k : Nat} {a : F} (h : Sm 2520 B a) (hk : 12 ≤ k) (hb : B * 2520 < 2 ^ k) : PL.Ok k a := ⟨h.nrm, h.sz (by decide) (Nat.lt_of_lt_of_le (by decide : 2520 < 2 ^ 12) (Nat.pow_le_pow_right (by decide) hk)) hb⟩
theorem wk_p {p s w : F} (h : Wk p s w) {k : Nat} (hk : k ≤ 60) : PL.Ok 26 (walkP p s w k) := sm_ok (h.p60 hk) (by decide) (by decide)
theorem wk_v {p s w : F} (h : Wk p s w) {k : Nat} (hk : k ≤ 60) : PL.Ok 20 (walkV s w k) := sm_ok (h.v60 hk) (by decide) (by decide)
theorem wk_w {p s w : F} (h : Wk p s w) : PL.Ok 14 w := sm_ok h.w (by decide) (by decide)
abbrev walkL (p s w : F) (n : Nat) : List F := (List.range (n + 1)).map (walkP p s w)
theorem walkL_s (p s w : F) (n : Nat) : (walkL p s w (n + 1)).map fr = (walkL p s w n).map fr ++ [fr (walkP p s w (n + 1))] := by
  unfold walkL
  rw [List.range_succ, List.map_append, List.map_append]
  rfl
theorem walkL_at {p s w : F} {n k : Nat} (h : k ≤ n) : ((walkL p s w n).map fr)[k]? = some (fr (walkP p s w k)) := by
  unfold walkL
  rw [List.getElem?_map, List.getElem?_map, List.getElem?_range (by omega)]
  rfl
theorem walkL_len (p s w : F) (n : Nat) : ((walkL p s w n).map fr).length = n + 1 := by
  unfold walkL
  rw [List.length_map, List.length_map, List.length_range]
def RWalk (ds : List Dat) (d : Dat) : Prop := ∃ (p s w : F) (n : Nat), ds = [.d (fr p), .d (fr s), .d (fr w), .i (n : Nat)] ∧ Wk p s w ∧ n ≤ 60 ∧ d = .d (.list ((walkL p s w n).map fr))
def RLCross (ds : List Dat) (d : Dat) : Prop := ∃ (p s w l : F) (n : Nat), ds = [.d (.list ((walkL p s w n).map fr)), .d (fr l)] ∧ Wk p s w ∧ PL.Ok 50 l ∧ 1 ≤ n ∧ n ≤ 60 ∧ d = optN (crossQ p s w l n)
def crsB (p s w l : F) (k : Nat) : Bool := decide ((minusM p l).1 = 0) || (decide ((minusM (walkP p s w k) l).1 = 0) || !PyData.eqv (.bool (decide (0 < (minusM (walkP p s w k) l).1))) (.bool (decide (0 < (minusM p l).1))))
theorem eqv_b (a b : Bool) : PyData.eqv (.bool a) (.bool b) = decide (a = b) := by cases a <;> cases b <;> decide
theorem crs_iff {p s w l : F} {a v u : Int} {c : Nat} (h : Wk p s w) (hl : PL.Ok 50 l) (c0 : 0 < c) (ea : (a : Rat) = ((c : Int) : Rat) * vl (minusM p l)) (ev : (v : Rat) = ((c : Int) : Rat) * vl s) (eu : (u : Rat) = ((c : Int) : Rat) * vl w) (k : Nat) : crsB p s w l k = true ↔ Crs a v u k := by
  have hk := hgt_sgn c0 h.p.nrm h.s.nrm h.w.nrm hl.nrm ea ev eu k
  have h0 := hgt_sgn c0 h.p.nrm h.s.nrm h.w.nrm hl.nrm ea ev eu 0
  rw [show ((0 : Nat) : Int) = 0 from rfl, hgt_zero] at h0
  have h0 : (0 < (minusM p l).1 ↔ 0 < 2 * a) ∧ ((minusM p l).1 < 0 ↔ 2 * a < 0) := h0
  unfold crsB Crs
  rw [eqv_b]
  generalize (minusM (walkP p s w k) l).1 = x at *
  generalize (minusM p l).1 = y at *
  generalize hgt a v u k = z at *
  by_cases y0 : y = 0
  · have : a = 0 := by omega
    simp [y0, this]
  · rw [decide_eq_false y0, Bool.false_or]
    have na : ¬ a = 0 := by omega
    by_cases x0 : x = 0
    · have : z = 0 := by omega
      simp [x0, this]
      omega
    · rw [decide_eq_false x0, Bool.false_or]
      by_cases q : 0 < x <;> by_cases r : 0 < y <;> simp [q, r] <;> omega
theorem crossQ_at {p s w l : F} (h : Wk p s w) (hl : PL.Ok 50 l) : ∃ a v u : Int, (∀ n, crossQ p s w l n = crossT a v u n) ∧ ∀ k, crsB p s w l k = true ↔ Crs a v u k := by
  have op := wk_p h (k := 0) (by decide)
  have os := wk_v h (k := 0) (by decide)
  have hs : ∀ t ∈ [minusM p l, s, w], PL.Ok 110 t := fun t ht => by
    rcases List.mem_cons.mp ht with rfl | ht
    · exact (ok_minus op hl).mono (by decide)
    rcases List.mem_cons.mp ht with rfl | ht
    · exact os.mono (by decide)
    · rw [List.mem_singleton.mp ht]
      exact (wk_w h).mono (by decide)
  refine ⟨_, _, _, fun n => rfl, fun k => crs_iff h hl (den_p hs) (num_c hs (by simp)) (num_c hs (by simp)) (num_c hs (by simp)) k⟩
/-- what the law is told of a flight, of a crossing -/
def RToldFl (ds : List Dat) (d : Dat) : Prop :=
  (∃ (p0 p1 s0 s1 u0 u1 : F) (z n : Int), ds = [.i 0, .d (vcd p0 p1), .d (vcd s0 s1), .d (vcd u0 u1), .i z, .i n] ∧ PL.Ok 110 p0 ∧ PL.Ok 110 p1 ∧ PL.Ok 110 s0 ∧ PL.Ok 110 s1 ∧ PL.Ok 110 u0 ∧ PL.Ok 110 u1 ∧
    ((0 ≤ n ∧ n ≤ 1000000 ∧ d = .d (.tuple [vcd (flyP p0 s0 u0 n) (flyP p1 s1 u1 n), vcd (flyV s0 u0 n) (flyV s1 u1 n)])) ∨ ((n < 0 ∨ 1000000 < n) ∧ d = .d (.str "tick")))) ∨
  ∃ (p s w l : F) (m : Int), ds = [.i 1, .d (fr p), .d (fr s), .d (fr w), .d (fr l), .i m] ∧ PL.Ok 50 p ∧ PL.Ok 110 s ∧ PL.Ok 110 w ∧ PL.Ok 50 l ∧
    ((1 ≤ m ∧ m ≤ 1000000 ∧ d = optN (crossQ p s w l m.toNat)) ∨ ((m < 1 ∨ 1000000 < m) ∧ d = .d (.str "tick")))
/-! ### the law -/
def pulM (C : DS) (m t : Int) : F × DS := (lf ((take C (2 * m + 1)).1 - m) (1 + (take (take C (2 * m + 1)).2 t).1), (take (take C (2 * m + 1)).2 t).2)
theorem pul_sm {C : DS} {m t : Int} (h : DOk C) (m0 : 0 ≤ m) (hm : m ≤ 3) (t0 : 0 < t) (ht : t ≤ 9) : DOk (pulM C m t).2 ∧ Sm 2520 3 (pulM C m t).1 := by
  obtain ⟨h1, h2, h3⟩ := take_ok (C := C) (m := 2 * m + 1) h (by omega)
  obtain ⟨h4, h5, h6⟩ := take_ok (C := (take C (2 * m + 1)).2) (m := t) h1 t0
  refine ⟨h4, sm_lf (by omega) ?_ ?_⟩
  · generalize (take (take C (2 * m + 1)).2 t).1 = b at *
    have e : b = 0 ∨ b = 1 ∨ b = 2 ∨ b = 3 ∨ b = 4 ∨ b = 5 ∨ b = 6 ∨ b = 7 ∨ b = 8 := by omega
    rcases e with e | e | e | e | e | e | e | e | e <;> rw [e] <;> decide
  · have : ((take C (2 * m + 1)).1 - m).natAbs ≤ 3 := by omega
    have e : 1 ≤ (1 + (take (take C (2 * m + 1)).2 t).1).natAbs := by omega
    exact Nat.le_trans this (Nat.le_mul_of_pos_right _ e)
theorem wk_on {p0 p1 s0 s1 w0 w1 : F} (h0 : Wk p0 s0 w0) (h1 : Wk p1 s1 w1) {k : Nat} (hk : k ≤ 60) : On1 (walkP p0 s0 w0 k) (walkP p1 s1 w1 k) (walkV s0 w0 k) (walkV s1 w1 k) w0 w1 := ⟨(wk_p h0 hk).mono (by decide), (wk_p h1 hk).mono (by decide), (wk_v h0 hk).mono (by decide), (wk_v h1 hk).mono (by decide), (wk_w h0).mono (by decide), (wk_w h1).mono (by decide)⟩
theorem fly_p {p s w : F} (h : Wk p s w) {k : Nat} (hk : k ≤ 60) : flyP p s w k = walkP p s w k := by
  have on : Nrm (((k : Nat) : Int), (1 : Int)) := ⟨(show (0 : Int) < 1 by decide), by simp [Int.gcd]⟩
  have e2 : ((k : Int) * (k + 1)) / 2 * 2 = (k : Int) * (k + 1) := by
    have := Int.emod_two_eq (k : Int)
    have d : ((k : Int) * (k + 1)) % 2 = 0 := by
      rw [Int.mul_emod, Int.add_emod]
      rcases this with e | e <;> rw [e] <;> decide
    omega
  have o2 : Nrm ((k : Int) * (k + 1) / 2, (1 : Int)) := ⟨(show (0 : Int) < 1 by decide), by simp [Int.gcd]⟩
  have n1 := times_nrm h.s.nrm on
  have n2 := times_nrm h.w.nrm o2
  unfold flyP
  refine vl_inj (plus_nrm h.p.nrm (plus_nrm n1 n2)) (walkP_nrm h.p.nrm h.s.nrm h.w.nrm k) ?_
  have hw := vl_walkP h.p.nrm h.s.nrm h.w.nrm k
  rw [vl_plus h.p.nrm (plus_nrm n1 n2), vl_plus n1 n2, vl_times h.s.nrm on, vl_times h.w.nrm o2]
  have v1 : vl (((k : Nat) : Int), (1 : Int)) = ((k : Int) : Rat) := by unfold vl; grind
  have v2 : vl ((k : Int) * (k + 1) / 2, (1 : Int)) = (((k : Int) * (k + 1) / 2 : Int) : Rat) := by unfold vl; grind
  have v3 : (((k : Int) * (k + 1) / 2 : Int) : Rat) * 2 = ((k : Int) : Rat) * (((k : Int) : Rat) + 1) := by
    have := congrArg (fun z : Int => (z : Rat)) e2
    simp only [Rat.intCast_mul, Rat.intCast_add] at this
    have e1 : ((1 : Int) : Rat) = 1 := rfl
    have e3 : ((2 : Int) : Rat) = 2 := rfl
    rw [e1, e3] at this
    exact this
  rw [v1, v2]
  grind
theorem fly_v {p s w : F} (h : Wk p s w) {k : Nat} : flyV s w k = walkV s w k := by
  have on : Nrm (((k : Nat) : Int), (1 : Int)) := ⟨(show (0 : Int) < 1 by decide), by simp [Int.gcd]⟩
  have n1 := times_nrm h.w.nrm on
  unfold flyV
  refine vl_inj (plus_nrm h.s.nrm n1) (walkV_nrm h.s.nrm h.w.nrm k) ?_
  rw [vl_plus h.s.nrm n1, vl_times h.w.nrm on, vl_walkV h.s.nrm h.w.nrm k]
  have v1 : vl (((k : Nat) : Int), (1 : Int)) = ((k : Int) : Rat) := by unfold vl; grind
  rw [v1]
  grind
abbrev optP : Option Nat → PyData
  | none => .none
  | some z => .int (z : Nat)
theorem optN_p (o : Option Nat) : optN o = .d (optP o) := by cases o <;> rfl
theorem optP_eqv (a b : Option Nat) : PyData.eqv (optP a) (optP b) = decide (a = b) := by
  cases a with
  | none => cases b <;> simp [optP, PyData.eqv]
  | some x =>
    cases b with
    | none => simp [optP, PyData.eqv]
    | some y =>
      by_cases c : x = y
      · subst c
        simp [optP, PyData.eqv]
      · have : ¬ ((x : Int) = (y : Int)) := by omega
        simp [optP, PyData.eqv, c, this]
theorem walkL_take (p s w : F) {n m : Nat} (h : m ≤ n) : ((walkL p s w n).map fr).take (m + 1) = (walkL p s w m).map fr := by
  unfold walkL
  rw [← List.map_take, ← List.map_take, List.take_range, Nat.min_eq_left (by omega)]
theorem walkL_take2 (p s w : F) {n m : Nat} (h : n ≤ m) : ((walkL p s w n).map fr).take (m + 1) = (walkL p s w n).map fr := List.take_of_length_le (by rw [walkL_len]; omega)
abbrev optIP : Option Int → PyData
  | none => .none
  | some z => .int z
theorem optI_p (o : Option Int) : optI o = .d (optIP o) := by cases o <;> rfl
theorem low_vl {p s w : F} {c : Nat} {v u t : Int} (h : Wk p s w) (c0 : 0 < c) (ev : (v : Rat) = ((c : Int) : Rat) * vl s) (eu : (u : Rat) = ((c : Int) : Rat) * vl w) (ht : topF v u = some t) {m : Nat} (hm : t ≤ m) : ∀ n : Nat, vl (walkP p s w (m + n)) ≤ vl (walkP p s w m)
  | 0 => Rat.le_refl
  | n + 1 => by
    have ih := low_vl h c0 ev eu ht hm n
    have := (step_vl c0 h.p.nrm h.s.nrm h.w.nrm ev eu (m + n)).2 (top_down ht (by omega))
    rw [show m + (n + 1) = m + n + 1 by omega]
    exact Rat.le_trans this ih
theorem less_vl {p s w : F} (h : Wk p s w) (i j : Nat) : less (walkP p s w i) (walkP p s w j) = decide (vl (walkP p s w i) < vl (walkP p s w j)) := by
  have := vl_lt (walkP_nrm h.p.nrm h.s.nrm h.w.nrm i).1 (walkP_nrm h.p.nrm h.s.nrm h.w.nrm j).1
  unfold less
  by_cases c : vl (walkP p s w i) < vl (walkP p s w j)
  · rw [decide_eq_true c, decide_eq_true (this.mp c)]
  · rw [decide_eq_false c, decide_eq_false fun z => c (this.mpr z)]
/-- the best of the first places -/
def Bst (v u : Int) (i b : Nat) : Prop := b ≤ 60 ∧ ∀ t, topF v u = some t → ((b : Int) = ((i - 1 : Nat) : Int) ∧ (b : Int) ≤ t) ∨ ((b : Int) = t ∧ t ≤ ((i - 1 : Nat) : Int))
theorem bst_step {p s w : F} {c : Nat} {v u : Int} (h : Wk p s w) (c0 : 0 < c) (ev : (v : Rat) = ((c : Int) : Rat) * vl s) (eu : (u : Rat) = ((c : Int) : Rat) * vl w) {i b : Nat} (hi : i < 61) (hb : Bst v u i b) : Bst v u (i + 1) (if less (walkP p s w b) (walkP p s w i) = true then i else b) := by
  refine ⟨?_, fun t ht => ?_⟩
  · split
    · omega
    · exact hb.1
  have nn := top_nn ht
  have hb2 := hb.2 t ht
  rw [less_vl h]
  rw [show i + 1 - 1 = i from rfl]
  by_cases z : i = 0
  · subst z
    have e : b = 0 := by omega
    subst e
    rw [if_neg (by rw [decide_eq_false (Rat.lt_irrefl)]; decide)]
    omega
  · by_cases q : (i : Int) ≤ t
    · have e : b = i - 1 := by omega
      have st := (step_vl c0 h.p.nrm h.s.nrm h.w.nrm ev eu (i - 1)).1 (top_up ht (by omega) (by omega))
      rw [show i - 1 + 1 = i by omega] at st
      rw [e, if_pos (decide_eq_true st)]
      omega
    · have e : (b : Int) = t := by omega
      have lo := low_vl h c0 ev eu ht (m := b) (by omega) (i - b)
      rw [show b + (i - b) = i by omega] at lo
      rw [if_neg (by rw [decide_eq_false (Rat.not_lt.mpr lo)]; decide)]
      omega
theorem top_grows {S W : F} {c : Nat} {v u : Int} (hS : Nrm S) (hW : Nrm W) (c0 : 0 < c) (ev : (v : Rat) = ((c : Int) : Rat) * vl S) (eu : (u : Rat) = ((c : Int) : Rat) * vl W) : (decide (0 < W.1) || (decide (W.1 = 0) && decide (0 < S.1))) = isNon (optIP (topF v u)) := by
  have hc := cpos (show (0 : Int) < (c : Int) by omega)
  have z : ((0 : Int) : Rat) = 0 := rfl
  have key : ∀ (X : F) (n : Int), Nrm X → (n : Rat) = ((c : Int) : Rat) * vl X → (0 < X.1 ↔ 0 < n) ∧ (X.1 < 0 ↔ n < 0) := fun X n hX en => by
    rw [← vl_pos hX.1, ← vl_neg hX.1]
    have q1 : (0 : Rat) < (n : Rat) ↔ 0 < n := by
      rw [← z]
      exact Rat.intCast_lt_intCast
    have q2 : (n : Rat) < 0 ↔ n < 0 := by
      rw [← z]
      exact Rat.intCast_lt_intCast
    rw [← q1, ← q2, en]
    generalize vl X = x
    refine ⟨⟨fun y => Rat.mul_pos hc y, fun y => ?_⟩, fun y => ?_, fun y => ?_⟩
    · by_cases q : 0 < x
      · exact q
      · have := Rat.mul_nonneg (show 0 ≤ ((c : Int) : Rat) by grind) (show 0 ≤ -x by grind)
        grind
    · have := Rat.mul_pos hc (show 0 < -x by grind)
      grind
    · by_cases q : x < 0
      · exact q
      · have := Rat.mul_nonneg (show 0 ≤ ((c : Int) : Rat) by grind) (show 0 ≤ x by grind)
        grind
  have kW := key W u hW eu
  have kS := key S v hS ev
  unfold topF
  by_cases a : u < 0
  · rw [if_pos a, decide_eq_false (show ¬ 0 < W.1 by omega), decide_eq_false (show ¬ W.1 = 0 by omega)]
    rfl
  · rw [if_neg a]
    by_cases b : 0 < u ∨ 0 < v
    · rw [if_pos b]
      by_cases d : 0 < u
      · rw [decide_eq_true (show 0 < W.1 by omega)]
        rfl
      · rw [decide_eq_false (show ¬ 0 < W.1 by omega), decide_eq_true (show W.1 = 0 by omega), decide_eq_true (show 0 < S.1 by omega)]
        rfl
    · rw [if_neg b, decide_eq_false (show ¬ 0 < W.1 by omega), decide_eq_false (show ¬ 0 < S.1 by omega), Bool.and_false]
      rfl
def topT (b : Nat) : Option Int → Bool
  | none => false
  | some t => !decide (t = (b : Nat)) && (decide ((b : Int) < 60) || decide (t ≤ 60))
theorem sh_tick : SeqAt.shaped (PyData.str "tick") = true := by decide +kernel
theorem eqv_two (a b c d : F) : PyData.eqv (.tuple [vcd a b, vcd c d]) (.tuple [vcd a b, vcd c d]) = true := by simp [PyData.eqv, PyData.eqvAll]
theorem eqv_tick : PyData.eqv (.str "tick") (.str "tick") = true := by simp [PyData.eqv]
theorem eqv_bb (a : Bool) : PyData.eqv (.bool a) (.bool a) = true := by rw [eqv_b]; simp
theorem eqv_ii (a b : Int) : PyData.eqv (.int a) (.int b) = decide (a = b) := by by_cases c : a = b <;> simp [PyData.eqv, c]
theorem wk_110 {p s w : F} (h : Wk p s w) : PL.Ok 50 p ∧ PL.Ok 110 s ∧ PL.Ok 110 w := ⟨(wk_p h (k := 0) (by decide)).mono (by decide), (wk_v h (k := 0) (by decide)).mono (by decide), (wk_w h).mono (by decide)⟩
theorem sh_opt (o : Option Nat) : SeqAt.shaped (optP o) = true := by cases o <;> rfl
section
variable {P : Program} {w : World} {K : PySem.W.Frag} {mg : Str → Option Value} {base : Heap}
theorem fok_plus (Tp : Top K mg base) : FnOk P w K mg base CX0 1 Tp.f_plus Tp.d_plus ["a", "b"] (spP K (RPlus plusM)) := by
  refine Tp.F_plus.ok sc_plus (fun vs H Q E h => len_P (fun _ _ z => z.len) h) (fun cdv A outer s H vs Q E hr h => ?_)
  refine ⟨_, (pss_cons (ps_set (i := 2) sc_plus.nd rfl (.inl rfl) (pe_callBfun cr_gcd (by rfl) Tp.n_gcd (pa_cons (pe_ix (r := rIxT K) ix_tup (pv 0) pe_int (fun _ _ => rfl)) (pa_cons (pe_ix (r := rIxT K) ix_tup (pv 1) pe_int (fun _ _ => rfl)) pa_nil))))
      (pss_cons (ps_set (i := 3) sc_plus.nd rfl (.inl rfl) (pe_op op_fdivW (pe_ix (r := rIxT K) ix_tup (pv 0) pe_int (fun _ _ => rfl)) (pv 2)))
      (pss_cons (ps_set (i := 4) sc_plus.nd rfl (.inl rfl) (pe_op op_add (pe_op op_mulW (pe_ix (r := rIxT K) ix_tup (pv 0) pe_int (fun _ _ => rfl)) (pe_op op_fdivW (pe_ix (r := rIxT K) ix_tup (pv 1) pe_int (fun _ _ => rfl)) (pv 2))) (pe_op op_mulW (pe_ix (r := rIxT K) ix_tup (pv 1) pe_int (fun _ _ => rfl)) (pv 3))))
      (pss_cons (ps_set (i := 5) sc_plus.nd rfl (.inl rfl) (pe_callBfun cr_gcd (by rfl) Tp.n_gcd (pa_cons (pv 4) (pa_cons (pv 2) pa_nil))))
      (pss_one (ps_ret (pe_tup (pa_cons (pe_op op_fdivW (pv 4) (pv 5)) (pa_cons (pe_op op_mulW (pv 3) (pe_op op_fdivW (pe_ix (r := rIxT K) ix_tup (pv 1) pe_int (fun _ _ => rfl)) (pv 5))) pa_nil))))))))), body_P ?_ h⟩
  refine fun ds d r I => ?_
  obtain ⟨a, b, rfl, ha, hb, rfl⟩ := r
  walk_at "norm"
  have pa := ha.nrm.1
  have pb := hb.nrm.1
  
  have s0 : Int.gcd a.2 b.2 ≠ 0 := Int.gcd_ne_zero_right (by omega)
  have z1 : ((Int.gcd a.2 b.2 : Nat) : Int).natAbs < 2 ^ 4000 := sz_gcd hb.sz.2 (by omega)
  have z2 := sz_div ha.sz.2 (Int.gcd_dvd_left a.2 b.2)
  have z3 := sz_div hb.sz.2 (Int.gcd_dvd_right a.2 b.2)
  have hg : (0 : Int) < (Int.gcd a.2 b.2 : Nat) := by omega
  refine q_asg (d := .i (Int.gcd a.2 b.2 : Nat)) (by walk_at "ev") ?_
  refine q_asg (d := .i (a.2 / (Int.gcd a.2 b.2 : Nat))) (by walk_at "ev"; exact divW hg z1 (by decide)) ?_
  refine q_asg (d := .i (a.1 * (b.2 / (Int.gcd a.2 b.2 : Nat)) + b.1 * (a.2 / (Int.gcd a.2 b.2 : Nat)))) ?_ ?_
  · walk_at "ev"
    · exact divW hg z1 (by decide)
    · exact mulW ha.sz.1 z3 (by decide)
    · exact mulW hb.sz.1 z2 (by decide)
  · generalize hn : a.1 * (b.2 / (Int.gcd a.2 b.2 : Nat)) + b.1 * (a.2 / (Int.gcd a.2 b.2 : Nat)) = n
    have v0 : Int.gcd n (Int.gcd a.2 b.2 : Nat) ≠ 0 := Int.gcd_ne_zero_right (by omega)
    have zv : ((Int.gcd n (Int.gcd a.2 b.2 : Nat) : Nat) : Int).natAbs < 2 ^ 4000 := sz_gcd z1 (by omega)
    have hv : (0 : Int) < (Int.gcd n (Int.gcd a.2 b.2 : Nat) : Nat) := by omega
    have dv : ((Int.gcd n (Int.gcd a.2 b.2 : Nat) : Nat) : Int) ∣ b.2 := Int.dvd_trans (Int.gcd_dvd_right _ _) (Int.gcd_dvd_right _ _)
    refine q_asg (d := .i (Int.gcd n (Int.gcd a.2 b.2 : Nat) : Nat)) (by walk_at "ev") ?_
    refine p_ret (p_frac (x := n / (Int.gcd n (Int.gcd a.2 b.2 : Nat) : Nat)) (y := (a.2 / (Int.gcd a.2 b.2 : Nat)) * (b.2 / (Int.gcd n (Int.gcd a.2 b.2 : Nat) : Nat))) ?_ ?_)
    · walk_at "ev"
      · exact divW hv zv (by decide)
      · exact divW hv zv (by decide)
      · exact mulW z2 (sz_div hb.sz.2 dv) (by decide)
    · subst hn
      rfl
theorem fok_times (Tp : Top K mg base) : FnOk P w K mg base CX0 1 Tp.f_times Tp.d_times ["a", "b"] (spP K (RPlus timesM)) := by
  refine Tp.F_times.ok sc_times (fun vs H Q E h => len_P (fun _ _ z => z.len) h) (fun cdv A outer s H vs Q E hr h => ?_)
  refine ⟨_, (pss_cons (ps_set (i := 2) sc_times.nd rfl (.inl rfl) (pe_callBfun cr_gcd (by rfl) Tp.n_gcd (pa_cons (pe_ix (r := rIxT K) ix_tup (pv 0) pe_int (fun _ _ => rfl)) (pa_cons (pe_ix (r := rIxT K) ix_tup (pv 1) pe_int (fun _ _ => rfl)) pa_nil))))
      (pss_cons (ps_set (i := 3) sc_times.nd rfl (.inl rfl) (pe_callBfun cr_gcd (by rfl) Tp.n_gcd (pa_cons (pe_ix (r := rIxT K) ix_tup (pv 1) pe_int (fun _ _ => rfl)) (pa_cons (pe_ix (r := rIxT K) ix_tup (pv 0) pe_int (fun _ _ => rfl)) pa_nil))))
      (pss_one (ps_ret (pe_tup (pa_cons (pe_op op_mulW (pe_op op_fdivW (pe_ix (r := rIxT K) ix_tup (pv 0) pe_int (fun _ _ => rfl)) (pv 2)) (pe_op op_fdivW (pe_ix (r := rIxT K) ix_tup (pv 1) pe_int (fun _ _ => rfl)) (pv 3))) (pa_cons (pe_op op_mulW (pe_op op_fdivW (pe_ix (r := rIxT K) ix_tup (pv 0) pe_int (fun _ _ => rfl)) (pv 3)) (pe_op op_fdivW (pe_ix (r := rIxT K) ix_tup (pv 1) pe_int (fun _ _ => rfl)) (pv 2))) pa_nil))))))), body_P ?_ h⟩
  refine fun ds d r I => ?_
  obtain ⟨a, b, rfl, ha, hb, rfl⟩ := r
  walk_at "norm"
  have pa := ha.nrm.1
  have pb := hb.nrm.1
  
  have f0 : Int.gcd a.1 b.2 ≠ 0 := Int.gcd_ne_zero_right (by omega)
  have s0 : Int.gcd b.1 a.2 ≠ 0 := Int.gcd_ne_zero_right (by omega)
  have hf : (0 : Int) < (Int.gcd a.1 b.2 : Nat) := by omega
  have hs : (0 : Int) < (Int.gcd b.1 a.2 : Nat) := by omega
  have z1 : ((Int.gcd a.1 b.2 : Nat) : Int).natAbs < 2 ^ 4000 := sz_gcd hb.sz.2 (by omega)
  have z2 : ((Int.gcd b.1 a.2 : Nat) : Int).natAbs < 2 ^ 4000 := sz_gcd ha.sz.2 (by omega)
  refine q_asg (d := .i (Int.gcd a.1 b.2 : Nat)) (by walk_at "ev") ?_
  refine q_asg (d := .i (Int.gcd b.1 a.2 : Nat)) (by walk_at "ev") ?_
  refine p_ret (p_frac (x := (a.1 / (Int.gcd a.1 b.2 : Nat)) * (b.1 / (Int.gcd b.1 a.2 : Nat))) (y := (a.2 / (Int.gcd b.1 a.2 : Nat)) * (b.2 / (Int.gcd a.1 b.2 : Nat))) ?_ rfl)
  walk_at "ev"
  · exact divW hf z1 (by decide)
  · exact divW hs z2 (by decide)
  · exact mulW (sz_div ha.sz.1 (Int.gcd_dvd_left _ _)) (sz_div hb.sz.1 (Int.gcd_dvd_left _ _)) (by decide)
  · exact divW hs z2 (by decide)
  · exact divW hf z1 (by decide)
  · exact mulW (sz_div ha.sz.2 (Int.gcd_dvd_right _ _)) (sz_div hb.sz.2 (Int.gcd_dvd_right _ _)) (by decide)
theorem fok_compare (Tp : Top K mg base) : FnOk P w K mg base CX0 1 Tp.f_compare Tp.d_compare ["a", "b"] (spP K RCmp) := by
  refine Tp.F_compare.ok sc_compare (fun vs H Q E h => len_P (fun _ _ z => by obtain ⟨_, _, e, _⟩ := z; rw [e]; rfl) h) (fun cdv A outer s H vs Q E hr h => ?_)
  refine ⟨_, (pss_cons (ps_set (i := 2) sc_compare.nd rfl (.inl rfl) (pe_op op_mulW (pe_ix (r := rIxT K) ix_tup (pv 0) pe_int (fun _ _ => rfl)) (pe_ix (r := rIxT K) ix_tup (pv 1) pe_int (fun _ _ => rfl))))
      (pss_cons (ps_set (i := 3) sc_compare.nd rfl (.inl rfl) (pe_op op_mulW (pe_ix (r := rIxT K) ix_tup (pv 1) pe_int (fun _ _ => rfl)) (pe_ix (r := rIxT K) ix_tup (pv 0) pe_int (fun _ _ => rfl))))
      (pss_cons (ps_if (pt_cmpR op_lt (pv 2) (pv 3) (nomark _)) (pss_one (ps_ret (pe_un un_neg pe_int))) pss_nil)
      (pss_cons (ps_if (pt_cmpR op_gt (pv 2) (pv 3) (nomark _)) (pss_one (ps_ret pe_int)) pss_nil)
      (pss_one (ps_ret pe_int)))))), body_P ?_ h⟩
  refine fun ds d r I => ?_
  obtain ⟨a, b, rfl, ha, hb, rfl⟩ := r
  walk_at "norm"
  refine q_asg (d := .i (a.1 * b.2)) (by walk_at "ev"; exact mulW ha.sz.1 hb.sz.2 (by decide)) ?_
  refine q_asg (d := .i (b.1 * a.2)) (by walk_at "ev"; exact mulW hb.sz.1 ha.sz.2 (by decide)) ?_
  unfold cmpM
  by_cases c : a.1 * b.2 < b.1 * a.2
  · rw [if_pos c]
    exact s_stop (q_ifT (p_test (p_lt (i := a.1 * b.2) (j := b.1 * a.2) (by walk_at "ev") (by walk_at "ev"))) (decide_eq_true c) (p_ret (by walk_at "ev")))
  · rw [if_neg c]
    refine q_skip (p_test (p_lt (i := a.1 * b.2) (j := b.1 * a.2) (by walk_at "ev") (by walk_at "ev"))) (decide_eq_false c) ?_
    by_cases c2 : b.1 * a.2 < a.1 * b.2
    · rw [if_pos c2]
      exact s_stop (q_ifT (p_test (p_gt (i := a.1 * b.2) (j := b.1 * a.2) (by walk_at "ev") (by walk_at "ev"))) (decide_eq_true c2) (p_ret (by walk_at "ev")))
    · rw [if_neg c2]
      exact q_skip (p_test (p_gt (i := a.1 * b.2) (j := b.1 * a.2) (by walk_at "ev") (by walk_at "ev"))) (decide_eq_false c2) (p_ret (by walk_at "ev"))
theorem fok_common_denominator (Tp : Top K mg base) : FnOk P w K mg base CX0 1 Tp.f_common_denominator Tp.d_common_denominator ["items"] (spP K RDen) := by
  refine Tp.F_common_denominator.ok sc_common_denominator (fun vs H Q E h => len_P (fun _ _ ⟨_, e, _⟩ => by rw [e]; rfl) h) (fun cdv A outer s H vs Q E hr h => ?_)
  refine ⟨_, (pss_cons (ps_set (i := 1) sc_common_denominator.nd rfl (.inl rfl) pe_int)
      (pss_cons (ps_for PassesOwn.never rfl (pi_list (pv 0)) (pg_tup rfl (pgs_cons (pg_name (i := 2) sc_common_denominator.nd rfl (.inl rfl)) (pgs_cons (pg_name (i := 3) sc_common_denominator.nd rfl (.inl rfl)) pgs_nil))) (pss_one (ps_set (i := 1) sc_common_denominator.nd rfl (.inl rfl) (pe_callBfun cr_lcm (by rfl) Tp.n_lcm (pa_cons (pv 1) (pa_cons (pv 3) pa_nil))))))
      (pss_one (ps_ret (pv 1))))), body_P ?_ h⟩
  refine fun ds d r I => ?_
  obtain ⟨ts, rfl, hs, hl, rfl⟩ := r
  walk_at "norm"
  refine q_asg (d := .i ((1 : Nat) : Int)) (by walk_at "ev") ?_
  refine s_loopR (α := Nat) (bs := ts) (f := fun _ z => fr z) (fun i rest c => c < 2 ^ (110 * i + 1) ∧ i + rest.length = ts.length ∧ (∀ t ∈ rest, PL.Ok 110 t) ∧ rest.foldl (fun c t => Nat.lcm c t.2.natAbs) c = denM ts) (fun c => [some (.d (.list (ts.map fr))), some (.i (c : Nat)), none, none]) (fun _ => I) 1 ⟨by decide, by omega, hs, rfl⟩ (iw_l (e_var rfl)) (by rw [List.length_map]) (fun i z h => at0_map h) rfl (fun i z rest c hw => ?_) (fun c i hw => ?_)
  · obtain ⟨h1, h2, h3, h4⟩ := hw
    have hz := (h3 z List.mem_cons_self).sz.2
    have hi : i < 60 := by rw [List.length_cons] at h2; omega
    refine ⟨_, g_tup rfl (g_cons g_name (g_cons g_name g_nil)), .inl ⟨Nat.lcm c z.2.natAbs, ⟨?_, ?_, fun t ht => h3 t (List.mem_cons_of_mem _ ht), h4⟩, ?_⟩⟩
    · have e : (2 : Nat) ^ (110 * (i + 1) + 1) = 2 ^ (110 * i + 1) * 2 ^ 110 := by rw [← Nat.pow_add]; congr 1
      rw [e]
      exact lcm_lt2 h1 hz
    · rw [List.length_cons] at h2
      omega
    · refine s_lessN (ρ' := [some (.d (.list (ts.map fr))), some (.i (Nat.lcm c z.2.natAbs : Nat)), some (.i z.1), some (.i z.2)]) ⟨.inr rfl, .inr rfl, .inl rfl, .inl rfl, trivial⟩ ?_
      refine p_asg (e_is (e_lcm (i := (c : Nat)) (j := z.2) (by walk_at "ev") ?_ ?_) rfl)
      · rw [Int.natAbs_natCast]
        exact Nat.lt_of_lt_of_le h1 (Nat.pow_le_pow_right (by decide) (by omega))
      · exact Nat.lt_of_lt_of_le hz (Nat.pow_le_pow_right (by decide) (by decide))
  · obtain ⟨h1, h2, h3, h4⟩ := hw
    have e : c = denM ts := h4
    rw [← e]
    exact p_ret (e_var rfl)
theorem fok_height_after (Tp : Top K mg base) : FnOk P w K mg base CX0 1 Tp.f_height_after Tp.d_height_after ["start", "speed", "pull", "n"] (spP K RHgt) := by
  refine Tp.F_height_after.ok sc_height_after (fun vs H Q E h => len_P (fun _ _ ⟨_, _, _, _, e, _⟩ => by rw [e]; rfl) h) (fun cdv A outer s H vs Q E hr h => ?_)
  refine ⟨_, (pss_one (ps_ret (pe_op op_add (pe_op op_add (pe_op op_mulW pe_int (pv 0)) (pe_op op_mulW (pe_op op_mulW pe_int (pv 3)) (pv 1))) (pe_op op_mulW (pe_op op_mulW (pv 3) (pe_op op_add (pv 3) pe_int)) (pv 2))))), body_P ?_ h⟩
  refine fun ds d r I => ?_
  obtain ⟨a, v, u, n, rfl, h, h0, h1, rfl⟩ := r
  walk_at "norm"
  have z1 : (2 : Int).natAbs < 2 ^ 24 := by decide
  have z2 : n.natAbs < 2 ^ 24 := by omega
  have z3 : (n + 1).natAbs < 2 ^ 24 := by omega
  have z4 : (2 * n).natAbs < 2 ^ 24 := by omega
  have z5 : (n * (n + 1)).natAbs < 2 ^ 48 := by
    rw [Int.natAbs_mul, show (48 : Nat) = 24 + 24 from rfl, Nat.pow_add]
    exact Nat.mul_lt_mul'' z2 z3
  exact p_ret (p_add (p_add (p_mul e_int (e_var rfl) (mulW z1 h.a (by decide))) (p_mul (p_mul e_int (e_var rfl) (mulW z1 z2 (by decide))) (e_var rfl) (mulW z4 h.v (by decide)))) (p_mul (p_mul (e_var rfl) (p_add (e_var rfl) e_int) (mulW z2 z3 (by decide))) (e_var rfl) (mulW z5 h.u (by decide))))
theorem fok_ticks_before_turn (Tp : Top K mg base) : FnOk P w K mg base CX0 1 Tp.f_ticks_before_turn Tp.d_ticks_before_turn ["speed", "brake"] (spP K RTurn) := by
  refine Tp.F_ticks_before_turn.ok sc_ticks_before_turn (fun vs H Q E h => len_P (fun _ _ ⟨_, _, e, _⟩ => by rw [e]; rfl) h) (fun cdv A outer s H vs Q E hr h => ?_)
  refine ⟨_, (pss_one (ps_ret (pe_callB (call_max2 (by rfl)) (by rfl) Tp.n_max (by decide +kernel) (pa_cons pe_int (pa_cons (pe_op op_fdivW (pe_op op_sub (pv 0) pe_int) (pv 1)) pa_nil))))), body_P ?_ h⟩
  refine fun ds d r I => ?_
  obtain ⟨s, b, rfl, h0, hb, rfl⟩ := r
  walk_at "norm"
  exact p_ret (e_max2 (i := 0) (j := (s - 1) / b) (p_cons e_int (p_cons (p_div (p_sub (e_var rfl) e_int) (e_var rfl) (divW h0 hb (by decide))) a_nil)))
theorem fok_check_parts (Tp : Top K mg base) : FnOk P w K mg base (L2.CX P w) 1 Tp.f_check_parts Tp.d_check_parts ["parts", "count"] (spP K fun _ _ => False) := by
  refine Tp.F_check_parts.okX sc_check_parts (fun vs H Q E h => by obtain ⟨_, _, _, _, _, r, _⟩ := h; exact r.elim) (fun cdv A outer s H vs Q E hr h => ?_)
  obtain ⟨_, _, _, _, _, r, _⟩ := h
  exact r.elim
theorem fok_whole_factors (Tp : Top K mg base) : FnOk P w K mg base CX0 1 Tp.f_whole_factors Tp.d_whole_factors ["parts", "scale"] (spP K fun _ _ => False) := by
  refine Tp.F_whole_factors.ok sc_whole_factors (fun vs H Q E h => by obtain ⟨_, _, _, _, _, r, _⟩ := h; exact r.elim) (fun cdv A outer s H vs Q E hr h => ?_)
  obtain ⟨_, _, _, _, _, r, _⟩ := h
  exact r.elim
theorem fok_is_sized (Tp : Top K mg base) : FnOk P w K mg base CX0 1 Tp.f_is_sized Tp.d_is_sized ["size"] (spP K RSized) := by
  refine Tp.F_is_sized.ok sc_is_sized (fun vs H Q E h => len_P (fun _ _ z => by obtain ⟨_, _, e, _⟩ := z; rw [e]; rfl) h) (fun cdv A outer s H vs Q E hr h => ?_)
  refine ⟨_, (pss_one (ps_ret (pe_and (pe_cmpR op_gt (pe_ix (r := rIxT K) ix_tup (pe_ix (r := rIxT K) ix_tup (pv 0) pe_int (fun _ _ => rfl)) pe_int (fun _ _ => rfl)) pe_int (nomark _)) (pe_one (pe_cmpR op_gt (pe_ix (r := rIxT K) ix_tup (pe_ix (r := rIxT K) ix_tup (pv 0) pe_int (fun _ _ => rfl)) pe_int (fun _ _ => rfl)) pe_int (nomark _)))))), body_P ?_ h⟩
  refine fun ds d r I => ?_
  obtain ⟨a, b, rfl, rfl⟩ := r
  walk_at "norm"
  exact p_ret (e_andV (p_gt (i := a.1) (j := 0) (by walk_at "ev") (by walk_at "ev")) fun _ => p_gt (i := b.1) (j := 0) (by walk_at "ev") (by walk_at "ev"))
theorem fok_is_moving (Tp : Top K mg base) : FnOk P w K mg base CX0 1 Tp.f_is_moving Tp.d_is_moving ["body"] (spP K RMoving) := by
  refine Tp.F_is_moving.ok sc_is_moving (fun vs H Q E h => len_P (fun _ _ ⟨_, e, _⟩ => by rw [e]; rfl) h) (fun cdv A outer s H vs Q E hr h => ?_)
  refine ⟨_, (pss_one (ps_ret (pe_cmpR op_gt (pe_ix (r := rIxT K) ix_tup (pv 0) pe_int (fun _ _ => rfl)) pe_int (nomark _)))), body_P ?_ h⟩
  refine fun ds d r I => ?_
  obtain ⟨b, rfl, rfl⟩ := r
  walk_at "norm"
  exact p_ret (p_gt (i := b.ms) (j := 0) (p_ixT (i := 3) (x := .int b.ms) (e_var rfl) e_int rfl) e_int)
theorem fok_box_of_body (Tp : Top K mg base) : FnOk P w K mg base CX0 1 Tp.f_box_of_body Tp.d_box_of_body ["body"] (spP K RBoxOf) := by
  refine Tp.F_box_of_body.ok sc_box_of_body (fun vs H Q E h => len_P (fun _ _ ⟨_, e, _⟩ => by rw [e]; rfl) h) (fun cdv A outer s H vs Q E hr h => ?_)
  refine ⟨_, (pss_one (ps_ret (pe_tup (pa_cons (pe_ix (r := rIxT K) ix_tup (pv 0) pe_int (fun _ _ => rfl)) (pa_cons (pe_ix (r := rIxT K) ix_tup (pv 0) pe_int (fun _ _ => rfl)) pa_nil))))), body_P ?_ h⟩
  refine fun ds d r I => ?_
  obtain ⟨b, rfl, rfl⟩ := r
  walk_at "norm"
  exact p_ret (p_tup2 (p_cons (p_i1 (e_var rfl)) (p_cons (p_i2 (e_var rfl)) a_nil)))
theorem fok_places_of (Tp : Top K mg base) : FnOk P w K mg base CX0 1 Tp.f_places_of Tp.d_places_of ["bodies"] (spP K RPlaces) := by
  refine Tp.F_places_of.ok sc_places_of (fun vs H Q E h => len_P (fun _ _ ⟨_, e, _⟩ => by rw [e]; rfl) h) (fun cdv A outer s H vs Q E hr h => ?_)
  refine ⟨_, (pss_one (ps_ret (pe_dc (own := [("body", 1)]) (tt := tYes) rfl sc_places_of.nd (pi_tup (pv 0)) (blkOk_by (N := ["bodies", "body"]) (sc := defScope s_places_of) (by decide +kernel)) (fun _ _ _ _ _ => (pg_name (i := 1) sc_places_of.nd rfl (Or.inl rfl))) (fun _ _ _ _ _ => pts_nil) (fun _ _ _ _ _ => (pe_ix (r := rIxT K) ix_tup (pv 1) pe_int (fun _ _ => rfl))) (fun _ _ _ _ _ => (pe_ix (r := rIxT K) ix_tup (pv 1) pe_int (fun _ _ => rfl)))))), body_P ?_ h⟩
  refine fun ds d r I => ?_
  obtain ⟨bs, rfl, nd, hl, rfl⟩ := r
  walk_at "norm"
  refine p_ret (e_dcW (ks := bs.map (·.nm)) (es := bs.map fun z => vcd z.bx.p0 z.bx.p1) (iw_t (e_var rfl)) (by rw [List.length_map, List.length_map]) (by rw [List.length_map, List.length_map]) (by rw [List.length_map]; exact hl) nd fun i m y hi hm hy => ?_)
  obtain ⟨z, hz, rfl⟩ := getElem?_of_map hy
  rw [List.getElem?_map, hz] at hm
  obtain rfl : z.nm = m := Option.some.inj hm
  rw [at0_map hz]
  exact ⟨_, w_name List.mem_cons_self, fun I' => p_i0 (e_var rfl), fun I' => p_i1 (e_var rfl)⟩
theorem fok_law_begin (Tp : Top K mg base) : FnOk P w K mg base CX0 1 Tp.f_law_begin Tp.d_law_begin ["script"] (spBegin K) := by
  refine Tp.F_law_begin.ok sc_law_begin (fun vs H Q E h => by obtain ⟨_, _, _, e, _⟩ := h; rw [e]; rfl) (fun cdv A outer s H vs Q E hr h => ?_)
  refine ⟨_, (pss_cons (ps_set (i := 1) sc_law_begin.nd rfl (.inl rfl) pe_int)
      (pss_cons (ps_for PassesOwn.never rfl (pi_list (pv 0)) (pg_name (i := 2) sc_law_begin.nd rfl (.inl rfl)) (pss_one (ps_set (i := 1) sc_law_begin.nd rfl (.inl rfl) (pe_op op_mod (pe_op op_add (pe_op op_add (pe_op op_mulW (pv 1) pe_int) (pe_op op_mod (pe_callTy call_int1 (by rfl) Tp.n_int (by decide +kernel) (pa_cons (pv 2) pa_nil)) pe_int)) pe_int) pe_int))))
      (pss_one (ps_ret (pe_lst (pa_cons (pe_callTy call_list_of (by rfl) Tp.n_list (by decide +kernel) (pa_cons (pv 0) pa_nil)) (pa_cons pe_int (pa_cons pe_int (pa_cons (pv 1) pa_nil))))))))), body_beg ?_ h⟩
  refine fun ns G0 H0 => ?_
  walk_at "norm"
  refine q_asg (d := .i 1) (by walk_at "ev") ?_
  refine s_seq (ρ1 := [some (.d (.list (ns.map PyData.int))), some (.i (seedAt ns ns.length)), none]) (J := .since NoA G0 H0) ?_ ?_
  · have z := s_forL (K := K) (ts := ?_) (tl := tVar 0) (I := .since NoA G0 H0) (ds := ns.map PyData.int) (j := 2) (fun i => [some (.d (.list (ns.map PyData.int))), some (.i (seedAt ns i)), none]) (fun _ => .since NoA G0 H0) (e_var rfl) rfl ?_
    · rw [List.length_map] at z
      exact z
    · intro i x hx
      rw [List.getElem?_map, Option.map_eq_some_iff] at hx
      obtain ⟨n, hn, rfl⟩ := hx
      have b := seed_ok ns i
      refine s_lessN (ρ' := [some (.d (.list (ns.map PyData.int))), some (.i (seedAt ns (i + 1))), some (.i n)]) ⟨.inr rfl, .inr rfl, .inl rfl, trivial⟩ ?_
      have e : seedAt ns (i + 1) = (seedAt ns i * 69621 + n % 2147483629 + 7) % 2147483647 := by
        show seedF (seedAt ns i) (ns.getD i 0) = _
        rw [List.getD_eq_getElem?_getD, hn]
        rfl
      rw [e]
      refine p_asg (d := .i ((seedAt ns i * 69621 + n % 2147483629 + 7) % 2147483647)) ?_
      walk_at "ev"
      · exact mulW (m := 32) (n := 32) (by omega) (by decide) (by decide)
      · decide
      · decide
  · exact s_retBeg (seed_ok ns _) (by walk_at "ev")
theorem fok_law_take (Tp : Top K mg base) : FnOk P w K mg base CX0 1 Tp.f_law_take Tp.d_law_take ["d", "many"] (spW K RTake) := by
  refine Tp.F_law_take.ok sc_law_take (fun vs H Q E h => len_W (fun _ _ _ _ ⟨_, e, _⟩ => by rw [e]; rfl) h) (fun cdv A outer s H vs Q E hr h => ?_)
  refine ⟨_, (pss_cons (ps_if (PW.pt (pw_and (pt_cmpR op_eq (pe_ix (r := rIxL K) ix_list (pv 0) pe_int (fun _ _ => rfl)) pe_int (nomark _)) (pw_and1 (pt_cmpR op_lt (pe_ix (r := rIxL K) ix_list (pv 0) pe_int (fun _ _ => rfl)) (pe_callB call_len_seq (by rfl) Tp.n_len (by decide +kernel) (pa_cons (pe_ix (r := rIxL K) ix_list (pv 0) pe_int (fun _ _ => rfl)) pa_nil)) (nomark _))))) (pss_cons (ps_asg (pe_callB call_abs (by rfl) Tp.n_abs (by decide +kernel) (pa_cons (pe_callTy call_int1 (by rfl) Tp.n_int (by decide +kernel) (pa_cons (pe_ix (r := rIxL K) ix_list (pe_ix (r := rIxL K) ix_list (pv 0) pe_int (fun _ _ => rfl)) (pe_ix (r := rIxL K) ix_list (pv 0) pe_int (fun _ _ => rfl)) (fun _ _ => rfl)) pa_nil)) pa_nil)) (pg_sub (pv 0) pe_int set_list))
      (pss_cons (ps_asg (pe_op op_add (pe_ix (r := rIxL K) ix_list (pv 0) pe_int (fun _ _ => rfl)) pe_int) (pg_sub (pv 0) pe_int set_list))
      (pss_one (ps_if (pt_cmpR op_lt (pe_ix (r := rIxL K) ix_list (pv 0) pe_int (fun _ _ => rfl)) (pe_op op_pow pe_int pe_int) (nomark _)) (pss_cons (ps_set (i := 2) sc_law_take.nd rfl (.inl rfl) (pe_callTy call_int1 (by rfl) Tp.n_int (by decide +kernel) (pa_cons (pe_ix (r := rIxL K) ix_list (pv 0) pe_int (fun _ _ => rfl)) pa_nil)))
      (pss_cons (ps_asg pe_int (pg_sub (pv 0) pe_int set_list))
      (pss_one (ps_ret (pe_op op_mod (pv 2) (pv 1)))))) pss_nil)))) pss_nil)
      (pss_cons (ps_if (pt_cmpR op_gt (pe_ix (r := rIxL K) ix_list (pv 0) pe_int (fun _ _ => rfl)) pe_int (nomark _)) (pss_cons (ps_set (i := 3) sc_law_take.nd rfl (.inl rfl) (pe_op op_mod (pe_callTy call_int1 (by rfl) Tp.n_int (by decide +kernel) (pa_cons (pe_ix (r := rIxL K) ix_list (pv 0) pe_int (fun _ _ => rfl)) pa_nil)) (pv 1)))
      (pss_cons (ps_asg (pe_op op_fdivW (pe_callTy call_int1 (by rfl) Tp.n_int (by decide +kernel) (pa_cons (pe_ix (r := rIxL K) ix_list (pv 0) pe_int (fun _ _ => rfl)) pa_nil)) (pv 1)) (pg_sub (pv 0) pe_int set_list))
      (pss_one (ps_ret (pv 3))))) pss_nil)
      (pss_cons (ps_asg (pe_op op_mod (pe_callTy call_int1 (by rfl) Tp.n_int (by decide +kernel) (pa_cons (pe_op op_add (pe_op op_mulW (pe_ix (r := rIxL K) ix_list (pv 0) pe_int (fun _ _ => rfl)) pe_int) pe_int) pa_nil)) pe_int) (pg_sub (pv 0) pe_int set_list))
      (pss_one (ps_ret (pe_op op_mod (pe_callTy call_int1 (by rfl) Tp.n_int (by decide +kernel) (pa_cons (pe_op op_fdivW (pe_ix (r := rIxL K) ix_list (pv 0) pe_int (fun _ _ => rfl)) pe_int) pa_nil)) (pv 1))))))), body_W ?_ h⟩
  refine fun ds C d C' r p J hf => ?_
  obtain ⟨m, rfl, ok, hm, hz, rfl, rfl⟩ := r
  walk_at "norm"
  have dm : ∀ i : Int, CDivW i m := fun i => divW hm hz (by decide)
  by_cases c1 : C.rest = 0 ∧ C.pos < C.ns.length
  · have e1 : (C.ns.map PyData.int)[C.pos]? = some (.int (C.ns.getD C.pos 0)) := by
      rw [List.getElem?_map, List.getElem?_eq_getElem c1.2, List.getD_eq_getElem?_getD, List.getElem?_eq_getElem c1.2]
      rfl
    generalize hx : ((C.ns.getD C.pos 0).natAbs : Int) = x
    have hx0 : 0 ≤ x := by omega
    by_cases c2 : x < 10 ^ 18
    · have e : take C m = (x % m, { C with pos := C.pos + 1, rest := 0 }) := by
        unfold take
        rw [if_pos c1, hx, if_pos c2]
      rw [e]
      refine s_stop (s_ifT (t_andT (t_is (p_test (p_eqI (i := C.rest) (j := 0) (d_ix2 (e_var rfl)) e_int)) (decide_eq_true c1.1)) (t_is (p_test (p_lt (i := (C.pos : Nat)) (j := ((C.ns.map PyData.int).length : Nat)) (d_ix1 (e_var rfl)) (p_len (p_cons (d_ix0 (e_var rfl)) a_nil)))) (decide_eq_true (by rw [List.length_map]; omega)))) ?_)
      refine s_seq (d_set2 (x := x) (e_is (p_abs (i := C.ns.getD C.pos 0) (p_cons (p_int1 (p_cons (e_ixL (j := C.pos) (d_ix0 (e_var rfl)) (d_ix1 (e_var rfl)) e1) a_nil)) a_nil)) (by rw [hx])) (e_var rfl) hf) ?_
      refine s_seq (d_set1 (n := C.pos + 1) (x := (C.pos : Int) + 1) (by walk_at "ev") rfl (e_var rfl) hf) ?_
      refine q_ifT (p_test (p_lt (i := x) (j := 10 ^ (18 : Int).toNat) (d_ix2 (e_var rfl)) (p_pow e_int e_int ⟨by decide, by decide, by decide⟩))) (decide_eq_true c2) ?_
      refine q_asg (d := .i x) (p_int1 (p_cons (d_ix2 (e_var rfl)) a_nil)) ?_
      refine s_seq (d_set2 (x := 0) e_int (e_var rfl) hf) ?_
      refine p_ret ?_
      walk_at "ev"
      exact hm
    · have e : take C m = take1 { C with pos := C.pos + 1, rest := x } m := by
        unfold take
        rw [if_pos c1, hx, if_neg c2]
      rw [e]
      have xp : 0 < x := by
        have : (0 : Int) < 10 ^ 18 := by decide
        omega
      refine s_seq (ρ1 := [some (.r p), some (.i m), none, none]) (J := dJ K p { C with pos := C.pos + 1, rest := x } J) (s_ifT (t_andT (t_is (p_test (p_eqI (i := C.rest) (j := 0) (d_ix2 (e_var rfl)) e_int)) (decide_eq_true c1.1)) (t_is (p_test (p_lt (i := (C.pos : Nat)) (j := ((C.ns.map PyData.int).length : Nat)) (d_ix1 (e_var rfl)) (p_len (p_cons (d_ix0 (e_var rfl)) a_nil)))) (decide_eq_true (by rw [List.length_map]; omega)))) ?_) ?_
      · refine s_seq (d_set2 (x := x) (e_is (p_abs (i := C.ns.getD C.pos 0) (p_cons (p_int1 (p_cons (e_ixL (j := C.pos) (d_ix0 (e_var rfl)) (d_ix1 (e_var rfl)) e1) a_nil)) a_nil)) (by rw [hx])) (e_var rfl) hf) ?_
        refine s_seq (d_set1 (n := C.pos + 1) (x := (C.pos : Int) + 1) (by walk_at "ev") rfl (e_var rfl) hf) ?_
        exact q_ifF (p_test (p_lt (i := x) (j := 10 ^ (18 : Int).toNat) (d_ix2 (e_var rfl)) (p_pow e_int e_int ⟨by decide, by decide, by decide⟩))) (decide_eq_false c2) s_next
      · have e2 : take1 { C with pos := C.pos + 1, rest := x } m = (x % m, { C with pos := C.pos + 1, rest := x / m }) := by
          unfold take1
          exact if_pos xp
        rw [e2]
        refine s_stop (q_ifT (p_test (p_gt (i := x) (j := 0) (d_ix2 (e_var rfl)) e_int)) (decide_eq_true xp) ?_)
        refine q_asg (d := .i (x % m)) (p_mod (p_int1 (p_cons (d_ix2 (e_var rfl)) a_nil)) (e_var rfl) hm) ?_
        refine s_seq (d_set2 (x := x / m) (p_div (p_int1 (p_cons (d_ix2 (e_var rfl)) a_nil)) (e_var rfl) (dm x)) (e_var rfl) hf) ?_
        exact p_ret (e_var rfl)
  · have e : take C m = take1 C m := by
      unfold take
      rw [if_neg c1]
    rw [e]
    refine s_seq (ρ1 := [some (.r p), some (.i m), none, none]) (J := dJ K p C J) (s_ifF (J := dJ K p C J) ?_ s_next) ?_
    · by_cases c3 : C.rest = 0
      · exact t_andT (t_is (p_test (p_eqI (i := C.rest) (j := 0) (d_ix2 (e_var rfl)) e_int)) (decide_eq_true c3)) (t_is (p_test (p_lt (i := (C.pos : Nat)) (j := ((C.ns.map PyData.int).length : Nat)) (d_ix1 (e_var rfl)) (p_len (p_cons (d_ix0 (e_var rfl)) a_nil)))) (decide_eq_false (by rw [List.length_map]; omega)))
      · exact t_andF (t_is (p_test (p_eqI (i := C.rest) (j := 0) (d_ix2 (e_var rfl)) e_int)) (decide_eq_false c3))
    by_cases c4 : 0 < C.rest
    · have e2 : take1 C m = (C.rest % m, { C with rest := C.rest / m }) := by
        unfold take1
        exact if_pos c4
      rw [e2]
      refine s_stop (q_ifT (p_test (p_gt (i := C.rest) (j := 0) (d_ix2 (e_var rfl)) e_int)) (decide_eq_true c4) ?_)
      refine q_asg (d := .i (C.rest % m)) (p_mod (p_int1 (p_cons (d_ix2 (e_var rfl)) a_nil)) (e_var rfl) hm) ?_
      refine s_seq (d_set2 (x := C.rest / m) (p_div (p_int1 (p_cons (d_ix2 (e_var rfl)) a_nil)) (e_var rfl) (dm _)) (e_var rfl) hf) ?_
      exact p_ret (e_var rfl)
    · have e2 : take1 C m = (((C.seed * 48271 + 11) % 2147483647 / 3) % m, { C with seed := (C.seed * 48271 + 11) % 2147483647 }) := by
        unfold take1
        exact if_neg c4
      rw [e2]
      have b := ok.s
      refine q_skip (p_test (p_gt (i := C.rest) (j := 0) (d_ix2 (e_var rfl)) e_int)) (decide_eq_false c4) ?_
      refine s_seq (d_set3 (x := (C.seed * 48271 + 11) % 2147483647) (p_mod (p_int1 (p_cons (p_add (p_mul (d_ix3 (e_var rfl)) e_int (mulW (m := 32) (n := 32) (by omega) (by decide) (by decide))) e_int) a_nil)) e_int (by decide)) (e_var rfl) hf) ?_
      exact p_ret (p_mod (p_int1 (p_cons (p_div (d_ix3 (e_var rfl)) e_int (divW (n := 2) (by decide) (by decide) (by decide))) a_nil)) (e_var rfl) hm)
theorem fok_law_gcd (Tp : Top K mg base) : FnOk P w K mg base CX0 1 Tp.f_law_gcd Tp.d_law_gcd ["a", "b"] (spP K RGcd) := by
  refine Tp.F_law_gcd.ok sc_law_gcd (fun vs H Q E h => len_P (fun _ _ ⟨_, _, e, _⟩ => by rw [e]; rfl) h) (fun cdv A outer s H vs Q E hr h => ?_)
  refine ⟨_, (pss_cons (ps_while PassesOwn.never (pt_cmpR op_ne (pv 1) pe_int (nomark _)) (pss_one (ps_par (i := 0) (j := 1) rfl sc_law_gcd.nd rfl rfl (by decide) rfl rfl (pa_cons (pv 1) (pa_cons (pe_op op_mod (pe_callTy call_int1 (by rfl) Tp.n_int (by decide +kernel) (pa_cons (pv 0) pa_nil)) (pv 1)) pa_nil)) (by rfl))))
      (pss_one (ps_ret (pe_callB call_abs (by rfl) Tp.n_abs (by decide +kernel) (pa_cons (pv 0) pa_nil))))), body_P ?_ h⟩
  refine fun ds d r I => ?_
  obtain ⟨x, y, rfl, hx, hy, rfl⟩ := r
  walk_at "norm"
  refine s_seq (ρ1 := [some (.i (Int.gcd x y : Nat)), some (.i 0)]) (J := I) ?_ ?_
  · refine s_while (α := Int × Int) (fun s => Int.gcd s.1 s.2 = Int.gcd x y ∧ 0 ≤ s.1 ∧ 0 ≤ s.2) (fun s => [some (.i s.1), some (.i s.2)]) (fun _ => I) (fun s => s.2.natAbs) (x, y) ⟨rfl, hx, hy⟩ fun s iv => ?_
    obtain ⟨h1, h2, h3⟩ := iv
    by_cases h : s.2 = 0
    · refine .inr ⟨t_is (t_test (p_neI (i := s.2) (j := 0) (by walk_at "ev") (by walk_at "ev"))) (by rw [h]; rfl), ?_⟩
      rw [h, Int.gcd_zero_right] at h1
      have e : s.1 = (Int.gcd x y : Nat) := by rw [← h1]; omega
      rw [h, e]
    · refine .inl ⟨t_is (t_test (p_neI (i := s.2) (j := 0) (by walk_at "ev") (by walk_at "ev"))) (by rw [decide_eq_false h]; rfl), .inl ⟨(s.2, s.1 % s.2), ⟨(gcd_step s.1 s.2).trans h1, h3, Int.emod_nonneg _ h⟩, ?_, ?_⟩⟩
      · have q := Int.emod_lt_of_pos s.1 (show 0 < s.2 by omega)
        have q2 := Int.emod_nonneg s.1 h
        show (s.1 % s.2).natAbs < s.2.natAbs
        omega
      · refine p_par (d := .i s.2) (e := .i (s.1 % s.2)) ?_
        walk_at "ev"
        omega
  · refine p_ret (e_is (p_abs (i := (Int.gcd x y : Nat)) (by walk_at "ev")) ?_)
    rw [Int.natAbs_natCast]
theorem fok_law_less (Tp : Top K mg base) : FnOk P w K mg base CX0 1 Tp.f_law_less Tp.d_law_less ["a", "b"] (spP K RLess) := by
  refine Tp.F_law_less.ok sc_law_less (fun vs H Q E h => len_P (fun _ _ z => by obtain ⟨_, _, e, _⟩ := z; rw [e]; rfl) h) (fun cdv A outer s H vs Q E hr h => ?_)
  refine ⟨_, (pss_one (ps_ret (pe_cmpR op_lt (pe_op op_mulW (pe_ix (r := rIxT K) ix_tup (pv 0) pe_int (fun _ _ => rfl)) (pe_ix (r := rIxT K) ix_tup (pv 1) pe_int (fun _ _ => rfl))) (pe_op op_mulW (pe_ix (r := rIxT K) ix_tup (pv 1) pe_int (fun _ _ => rfl)) (pe_ix (r := rIxT K) ix_tup (pv 0) pe_int (fun _ _ => rfl))) (nomark _)))), body_P ?_ h⟩
  refine fun ds d r I => ?_
  obtain ⟨a, b, rfl, ha, hb, rfl⟩ := r
  walk_at "norm"
  refine p_ret (p_lt (i := a.1 * b.2) (j := b.1 * a.2) ?_ ?_)
  · walk_at "ev"
    exact mulW ha.sz.1 hb.sz.2 (by decide)
  · walk_at "ev"
    exact mulW hb.sz.1 ha.sz.2 (by decide)
theorem fok_minus (Tp : Top K mg base) : FnOk P w K mg base CX0 2 Tp.f_minus Tp.d_minus ["a", "b"] (spP K (RPlus minusM)) := by
  have G_plus := fok_plus (P := P) (w := w) (base := base) Tp
  refine Tp.F_minus.ok sc_minus (fun vs H Q E h => len_P (fun _ _ z => z.len) h) (fun cdv A outer s H vs Q E hr h => ?_)
  refine ⟨_, (pss_one (ps_ret (pe_call G_plus (hr.mono (by decide)) (by rfl) Tp.g_plus Tp.F_plus.kp Tp.b_plus .nil pass0 (pa_cons (pv 0) (pa_cons (pe_tup (pa_cons (pe_un un_neg (pe_ix (r := rIxT K) ix_tup (pv 1) pe_int (fun _ _ => rfl))) (pa_cons (pe_ix (r := rIxT K) ix_tup (pv 1) pe_int (fun _ _ => rfl)) pa_nil))) pa_nil))))), body_P ?_ h⟩
  refine fun ds d r I => ?_
  obtain ⟨a, b, rfl, ha, hb, rfl⟩ := r
  walk_at "norm"
  have pa := ha.nrm.1
  have pb := hb.nrm.1
  
  refine p_ret (p_call (p_cons ?_ (p_cons (p_frac (x := -b.1) (y := b.2) ?_ rfl) a_nil)) ⟨a, (-b.1, b.2), rfl, ha, ok_neg hb, rfl⟩)
  · walk_at "ev"
  · walk_at "ev"
theorem fok_over (Tp : Top K mg base) : FnOk P w K mg base (L2.CX P w) 2 Tp.f_over Tp.d_over ["a", "b"] (spX K (ROver Tp.c_ZeroDenominator)) := by
  have G_times := fok_times (P := P) (w := w) (base := base) Tp
  refine Tp.F_over.okX sc_over (fun vs H Q E h => len_X (fun _ _ ⟨_, _, e, _⟩ => by rw [e]; rfl) h) (fun cdv A outer s H vs Q E hr h => ?_)
  refine ⟨_, (pss_cons (ps_if (pt_cmpR op_eq (pe_ix (r := rIxT K) ix_tup (pv 1) pe_int (fun _ _ => rfl)) pe_int (nomark _)) (pss_one (ps_raise rfl (takes_of rfl rfl rfl rfl) (pmk_own PySem.F.excBase_ValueError Tp.xc_ZeroDenominator Tp.gc_ZeroDenominator Tp.kc_ZeroDenominator (raises_own Tp.bc_ZeroDenominator Tp.tc_ZeroDenominator) rfl))) pss_nil)
      (pss_cons (ps_if (pt_cmpR op_lt (pe_ix (r := rIxT K) ix_tup (pv 1) pe_int (fun _ _ => rfl)) pe_int (nomark _)) (pss_one (ps_ret (pe_call G_times (hr.mono (by decide)) (by rfl) Tp.g_times Tp.F_times.kp Tp.b_times .nil pass0 (pa_cons (pv 0) (pa_cons (pe_tup (pa_cons (pe_un un_neg (pe_ix (r := rIxT K) ix_tup (pv 1) pe_int (fun _ _ => rfl))) (pa_cons (pe_un un_neg (pe_ix (r := rIxT K) ix_tup (pv 1) pe_int (fun _ _ => rfl))) pa_nil))) pa_nil))))) pss_nil)
      (pss_one (ps_ret (pe_call G_times (hr.mono (by decide)) (by rfl) Tp.g_times Tp.F_times.kp Tp.b_times .nil pass0 (pa_cons (pv 0) (pa_cons (pe_tup (pa_cons (pe_ix (r := rIxT K) ix_tup (pv 1) pe_int (fun _ _ => rfl)) (pa_cons (pe_ix (r := rIxT K) ix_tup (pv 1) pe_int (fun _ _ => rfl)) pa_nil))) pa_nil))))))), body_X ?_ h⟩
  refine fun ds r hr I hx => ?_
  obtain ⟨a, b, rfl, ha, hb, hr⟩ := hr
  walk_at "norm"
  rcases hr with ⟨h0, rfl⟩ | ⟨h0, rfl⟩
  · refine q_skip (p_test (p_eqI (i := b.1) (j := 0) (by walk_at "ev") (by walk_at "ev"))) (decide_eq_false h0) ?_
    by_cases c : b.1 < 0
    · refine s_stop (q_ifT (p_test (p_lt (i := b.1) (j := 0) (by walk_at "ev") (by walk_at "ev"))) (decide_eq_true c) ?_)
      refine p_ret (p_call (R := RPlus timesM) (ds := [.d (fr a), .d (fr (invM b))]) (p_cons (by walk_at "ev") (p_cons (p_frac (x := -b.2) (y := -b.1) (by walk_at "ev") (by unfold invM; exact if_pos c)) a_nil)) (RPlus.mk ha (ok_inv hb h0)))
    · refine q_skip (p_test (p_lt (i := b.1) (j := 0) (by walk_at "ev") (by walk_at "ev"))) (decide_eq_false c) ?_
      refine p_ret (p_call (R := RPlus timesM) (ds := [.d (fr a), .d (fr (invM b))]) (p_cons (by walk_at "ev") (p_cons (p_frac (x := b.2) (y := b.1) (by walk_at "ev") (by unfold invM; exact if_neg c)) a_nil)) (RPlus.mk ha (ok_inv hb h0)))
  · exact s_err (q_ifT (p_test (p_eqI (i := b.1) (j := 0) (by walk_at "ev") (by walk_at "ev"))) (decide_eq_true h0) (s_raise' fun G H σ D gh io => hx _ rfl G H io))
theorem fok_least (Tp : Top K mg base) : FnOk P w K mg base CX0 2 Tp.f_least Tp.d_least ["items"] (spP K (RBest less)) := by
  have G_compare := fok_compare (P := P) (w := w) (base := base) Tp
  refine Tp.F_least.ok sc_least (fun vs H Q E h => len_P (fun _ _ ⟨_, _, e, _⟩ => by rw [e]; rfl) h) (fun cdv A outer s H vs Q E hr h => ?_)
  refine ⟨_, (pss_cons (ps_set (i := 1) sc_least.nd rfl (.inl rfl) (pe_ix (r := rIxT K) ix_tup (pv 0) pe_int (fun _ _ => rfl)))
      (pss_cons (ps_for PassesOwn.never rfl (pi_tup (pv 0)) (pg_name (i := 2) sc_least.nd rfl (.inl rfl)) (pss_one (ps_if (pt_cmpR op_lt (pe_call G_compare (hr.mono (by decide)) (by rfl) Tp.g_compare Tp.F_compare.kp Tp.b_compare .nil pass0 (pa_cons (pv 2) (pa_cons (pv 1) pa_nil))) pe_int (nomark _)) (pss_one (ps_set (i := 1) sc_least.nd rfl (.inl rfl) (pv 2))) pss_nil)))
      (pss_one (ps_ret (pv 1))))), body_P ?_ h⟩
  refine fun ds d r I => ?_
  obtain ⟨x, xs, rfl, hx, rfl⟩ := r
  walk_at "norm"
  refine q_asg (d := .d (fr x)) (by walk_at "ev") ?_
  have hall : ∀ y ∈ x :: xs, PL.Ok 4000 y := hx
  refine s_seq (s_forT (ds := fr x :: xs.map fr) (j := 2) (fun i => [some (.t (fr x :: xs.map fr)), some (.d (fr (bestL less x ((x :: xs).take i)))), none]) (fun _ => I) (e_var rfl) rfl ?_) (p_ret (e_is (e_var rfl) ?_))
  rotate_left
  · rw [List.take_of_length_le (by simp)]
  · intro i y hy
    have hy' : ((x :: xs).map fr)[i]? = some y := hy
    rw [List.getElem?_map, Option.map_eq_some_iff] at hy'
    obtain ⟨w, hw, rfl⟩ := hy'
    obtain ⟨hi, ew⟩ := List.getElem?_eq_some_iff.mp hw
    have ok1 : PL.Ok 4000 w := hall w (by rw [← ew]; exact List.getElem_mem hi)
    have ok2 : PL.Ok 4000 (bestL less x ((x :: xs).take i)) := by
      rcases bestL_mem less ((x :: xs).take i) x with e | e
      · rw [e]; exact hall x List.mem_cons_self
      · exact hall _ (List.mem_of_mem_take e)
    refine s_lessN (ρ' := [some (.t (fr x :: xs.map fr)), some (.d (fr (bestL less x ((x :: xs).take (i + 1))))), some (.d (fr w))]) ⟨.inr rfl, .inr rfl, .inl rfl, trivial⟩ ?_
    rw [List.take_add_one, hw, show (some w).toList = [w] from rfl, bestL_snoc]
    generalize bestL less x ((x :: xs).take i) = b at *
    have ec : less w b = decide (cmpM w b < 0) := less_cmp w b
    by_cases c : less w b = true
    · rw [if_pos c]
      exact q_ifT (p_test (p_lt (i := cmpM w b) (j := 0) (p_call (R := RCmp) (ds := [.d (fr w), .d (fr b)]) (by walk_at "ev") ⟨_, _, rfl, ok1, ok2, rfl⟩) (by walk_at "ev"))) (by rw [← ec]; exact c) (p_asg (by walk_at "ev"))
    · rw [if_neg c]
      refine q_ifF (p_test (p_lt (i := cmpM w b) (j := 0) (p_call (R := RCmp) (ds := [.d (fr w), .d (fr b)]) (by walk_at "ev") ⟨_, _, rfl, ok1, ok2, rfl⟩) (by walk_at "ev"))) (by rw [← ec]; exact Bool.eq_false_iff.mpr c) s_next
theorem fok_greatest (Tp : Top K mg base) : FnOk P w K mg base CX0 2 Tp.f_greatest Tp.d_greatest ["items"] (spP K (RBest more)) := by
  have G_compare := fok_compare (P := P) (w := w) (base := base) Tp
  refine Tp.F_greatest.ok sc_greatest (fun vs H Q E h => len_P (fun _ _ ⟨_, _, e, _⟩ => by rw [e]; rfl) h) (fun cdv A outer s H vs Q E hr h => ?_)
  refine ⟨_, (pss_cons (ps_set (i := 1) sc_greatest.nd rfl (.inl rfl) (pe_ix (r := rIxT K) ix_tup (pv 0) pe_int (fun _ _ => rfl)))
      (pss_cons (ps_for PassesOwn.never rfl (pi_tup (pv 0)) (pg_name (i := 2) sc_greatest.nd rfl (.inl rfl)) (pss_one (ps_if (pt_cmpR op_gt (pe_call G_compare (hr.mono (by decide)) (by rfl) Tp.g_compare Tp.F_compare.kp Tp.b_compare .nil pass0 (pa_cons (pv 2) (pa_cons (pv 1) pa_nil))) pe_int (nomark _)) (pss_one (ps_set (i := 1) sc_greatest.nd rfl (.inl rfl) (pv 2))) pss_nil)))
      (pss_one (ps_ret (pv 1))))), body_P ?_ h⟩
  refine fun ds d r I => ?_
  obtain ⟨x, xs, rfl, hx, rfl⟩ := r
  walk_at "norm"
  refine q_asg (d := .d (fr x)) (by walk_at "ev") ?_
  have hall : ∀ y ∈ x :: xs, PL.Ok 4000 y := hx
  refine s_seq (s_forT (ds := fr x :: xs.map fr) (j := 2) (fun i => [some (.t (fr x :: xs.map fr)), some (.d (fr (bestL more x ((x :: xs).take i)))), none]) (fun _ => I) (e_var rfl) rfl ?_) (p_ret (e_is (e_var rfl) ?_))
  rotate_left
  · rw [List.take_of_length_le (by simp)]
  · intro i y hy
    have hy' : ((x :: xs).map fr)[i]? = some y := hy
    rw [List.getElem?_map, Option.map_eq_some_iff] at hy'
    obtain ⟨w, hw, rfl⟩ := hy'
    obtain ⟨hi, ew⟩ := List.getElem?_eq_some_iff.mp hw
    have ok1 : PL.Ok 4000 w := hall w (by rw [← ew]; exact List.getElem_mem hi)
    have ok2 : PL.Ok 4000 (bestL more x ((x :: xs).take i)) := by
      rcases bestL_mem more ((x :: xs).take i) x with e | e
      · rw [e]; exact hall x List.mem_cons_self
      · exact hall _ (List.mem_of_mem_take e)
    refine s_lessN (ρ' := [some (.t (fr x :: xs.map fr)), some (.d (fr (bestL more x ((x :: xs).take (i + 1))))), some (.d (fr w))]) ⟨.inr rfl, .inr rfl, .inl rfl, trivial⟩ ?_
    rw [List.take_add_one, hw, show (some w).toList = [w] from rfl, bestL_snoc]
    generalize bestL more x ((x :: xs).take i) = b at *
    have ec : more w b = decide (0 < cmpM w b) := more_cmp w b
    by_cases c : more w b = true
    · rw [if_pos c]
      exact q_ifT (p_test (p_gt (i := cmpM w b) (j := 0) (p_call (R := RCmp) (ds := [.d (fr w), .d (fr b)]) (by walk_at "ev") ⟨_, _, rfl, ok1, ok2, rfl⟩) (by walk_at "ev"))) (by rw [← ec]; exact c) (p_asg (by walk_at "ev"))
    · rw [if_neg c]
      refine q_ifF (p_test (p_gt (i := cmpM w b) (j := 0) (p_call (R := RCmp) (ds := [.d (fr w), .d (fr b)]) (by walk_at "ev") ⟨_, _, rfl, ok1, ok2, rfl⟩) (by walk_at "ev"))) (by rw [← ec]; exact Bool.eq_false_iff.mpr c) s_next
theorem fok_add (Tp : Top K mg base) : FnOk P w K mg base CX0 2 Tp.f_add Tp.d_add ["a", "b"] (spP K (RVec2 plusM)) := by
  have G_plus := fok_plus (P := P) (w := w) (base := base) Tp
  refine Tp.F_add.ok sc_add (fun vs H Q E h => len_P (fun _ _ z => z.len) h) (fun cdv A outer s H vs Q E hr h => ?_)
  refine ⟨_, (pss_one (ps_ret (pe_tup (pa_cons (pe_call G_plus (hr.mono (by decide)) (by rfl) Tp.g_plus Tp.F_plus.kp Tp.b_plus .nil pass0 (pa_cons (pe_ix (r := rIxT K) ix_tup (pv 0) pe_int (fun _ _ => rfl)) (pa_cons (pe_ix (r := rIxT K) ix_tup (pv 1) pe_int (fun _ _ => rfl)) pa_nil))) (pa_cons (pe_call G_plus (hr.mono (by decide)) (by rfl) Tp.g_plus Tp.F_plus.kp Tp.b_plus .nil pass0 (pa_cons (pe_ix (r := rIxT K) ix_tup (pv 0) pe_int (fun _ _ => rfl)) (pa_cons (pe_ix (r := rIxT K) ix_tup (pv 1) pe_int (fun _ _ => rfl)) pa_nil))) pa_nil))))), body_P ?_ h⟩
  refine fun ds d r I => ?_
  obtain ⟨a, b, x, y, rfl, ha, hb, hx, hy, rfl⟩ := r
  walk_at "norm"
  refine p_ret (p_tup2 (p_cons (p_call (R := RPlus plusM) (ds := [.d (fr a), .d (fr x)]) (by walk_at "ev") (RPlus.mk ha hx)) (p_cons (p_call (R := RPlus plusM) (ds := [.d (fr b), .d (fr y)]) (by walk_at "ev") (RPlus.mk hb hy)) a_nil)))
theorem fok_scale (Tp : Top K mg base) : FnOk P w K mg base CX0 2 Tp.f_scale Tp.d_scale ["a", "factor"] (spP K RScale) := by
  have G_times := fok_times (P := P) (w := w) (base := base) Tp
  refine Tp.F_scale.ok sc_scale (fun vs H Q E h => len_P (fun _ _ ⟨_, _, _, e, _⟩ => by rw [e]; rfl) h) (fun cdv A outer s H vs Q E hr h => ?_)
  refine ⟨_, (pss_one (ps_ret (pe_tup (pa_cons (pe_call G_times (hr.mono (by decide)) (by rfl) Tp.g_times Tp.F_times.kp Tp.b_times .nil pass0 (pa_cons (pe_ix (r := rIxT K) ix_tup (pv 0) pe_int (fun _ _ => rfl)) (pa_cons (pv 1) pa_nil))) (pa_cons (pe_call G_times (hr.mono (by decide)) (by rfl) Tp.g_times Tp.F_times.kp Tp.b_times .nil pass0 (pa_cons (pe_ix (r := rIxT K) ix_tup (pv 0) pe_int (fun _ _ => rfl)) (pa_cons (pv 1) pa_nil))) pa_nil))))), body_P ?_ h⟩
  refine fun ds d r I => ?_
  obtain ⟨a, b, c, rfl, ha, hb, hc, rfl⟩ := r
  walk_at "norm"
  refine p_ret (p_tup2 (p_cons (p_call (R := RPlus timesM) (ds := [.d (fr a), .d (fr c)]) (by walk_at "ev") (RPlus.mk ha hc)) (p_cons (p_call (R := RPlus timesM) (ds := [.d (fr b), .d (fr c)]) (by walk_at "ev") (RPlus.mk hb hc)) a_nil)))
theorem fok_whole_numbers (Tp : Top K mg base) : FnOk P w K mg base CX0 2 Tp.f_whole_numbers Tp.d_whole_numbers ["items"] (spP K RWholeN) := by
  have G_common_denominator := fok_common_denominator (P := P) (w := w) (base := base) Tp
  refine Tp.F_whole_numbers.ok sc_whole_numbers (fun vs H Q E h => len_P (fun _ _ ⟨_, e, _⟩ => by rw [e]; rfl) h) (fun cdv A outer s H vs Q E hr h => ?_)
  refine ⟨_, (pss_cons (ps_set (i := 1) sc_whole_numbers.nd rfl (.inr rfl) (pe_call G_common_denominator (hr.mono (by decide)) (by rfl) Tp.g_common_denominator Tp.F_common_denominator.kp Tp.b_common_denominator .nil pass0 (pa_cons (pv 0) pa_nil)))
      (pss_one (ps_ret (pe_lc (own := [("number", 2), ("denominator", 3)]) (g := (gTup K 2 (gCons (gName 2) (gCons (gName 3) gNil)))) (tt := tYes) rfl sc_whole_numbers.nd (pi_list (pv 0)) (blkOk_by (N := ["items", "common", "number", "denominator"]) (sc := defScope s_whole_numbers) (by decide +kernel)) (fun _ _ _ _ _ => (pg_tup rfl (pgs_cons (pg_name (i := 2) sc_whole_numbers.nd rfl (Or.inl rfl)) (pgs_cons (pg_name (i := 3) sc_whole_numbers.nd rfl (Or.inl rfl)) pgs_nil)))) (fun _ _ _ _ _ => pts_nil) (fun _ _ _ _ _ => (pe_op op_mulW (pv 2) (pe_op op_fdivW (pv 1) (pv 3)))))))), body_P ?_ h⟩
  refine fun ds d r I => ?_
  obtain ⟨ts, rfl, hs, hl, rfl⟩ := r
  walk_at "norm"
  refine q_asg (d := .i (denM ts : Nat)) (p_call (R := RDen) (ds := [.d (.list (ts.map fr))]) (by walk_at "ev") ⟨ts, rfl, hs, hl, rfl⟩) ?_
  have cs : denM ts < 2 ^ 6800 := Nat.lt_of_lt_of_le (den_sz _ 1 1 (by decide) hs) (Nat.pow_le_pow_right (by decide) (by omega))
  refine p_ret (e_lcW (es := (numsM ts).map PyData.int) (iw_l (ds := ts.map fr) (e_var rfl)) (by unfold numsM; rw [List.length_map, List.length_map, List.length_map]) (by rw [List.length_map]; omega) fun i y hi hy => ?_)
  unfold numsM at hy
  rw [List.map_map] at hy
  obtain ⟨z, hz, rfl⟩ := getElem?_of_map hy
  rw [at0_map hz]
  have hz1 := hs z (List.mem_of_getElem? hz)
  have dz := divW (i := ((denM ts : Nat) : Int)) (j := z.2) (n := 110) hz1.nrm.1 hz1.sz.2 (by decide)
  have qz : (((denM ts : Nat) : Int) / z.2).natAbs < 2 ^ 6800 := by
    refine Nat.lt_of_le_of_lt ?_ cs
    have := Int.natAbs_ediv_le_natAbs ((denM ts : Nat) : Int) z.2
    rw [Int.natAbs_natCast] at this
    exact this
  exact ⟨_, w_tup rfl (w_cons (w_name (by decide)) (w_cons (w_name (by decide)) w_nil)), fun I' => p_mul (e_var rfl) (p_div (e_var rfl) (e_var rfl) dz) (mulW hz1.sz.1 qz (by decide))⟩
theorem fok_last_fall (Tp : Top K mg base) : FnOk P w K mg base CX0 2 Tp.f_last_fall Tp.d_last_fall ["speed", "pull", "most"] (spP K RLast) := by
  have G_ticks_before_turn := fok_ticks_before_turn (P := P) (w := w) (base := base) Tp
  refine Tp.F_last_fall.ok sc_last_fall (fun vs H Q E h => len_P (fun _ _ ⟨_, _, _, e, _⟩ => by rw [e]; rfl) h) (fun cdv A outer s H vs Q E hr h => ?_)
  refine ⟨_, (pss_cons (ps_if (pt_cmpR op_le (pv 1) pe_int (nomark _)) (pss_one (ps_ret (pv 2))) pss_nil)
      (pss_one (ps_ret (pe_callB (call_min2 (by rfl)) (by rfl) Tp.n_min (by decide +kernel) (pa_cons (pv 2) (pa_cons (pe_call G_ticks_before_turn (hr.mono (by decide)) (by rfl) Tp.g_ticks_before_turn Tp.F_ticks_before_turn.kp Tp.b_ticks_before_turn .nil pass0 (pa_cons (pe_un un_neg (pv 0)) (pa_cons (pv 1) pa_nil))) pa_nil)))))), body_P ?_ h⟩
  refine fun ds d r I => ?_
  obtain ⟨v, u, m, rfl, hu, rfl⟩ := r
  walk_at "norm"
  unfold lastM
  by_cases c : u ≤ 0
  · rw [if_pos c]
    exact s_stop (q_ifT (p_test (p_le (i := u) (j := 0) (by walk_at "ev") (by walk_at "ev"))) (decide_eq_true c) (p_ret (e_var rfl)))
  · rw [if_neg c]
    refine q_skip (p_test (p_le (i := u) (j := 0) (by walk_at "ev") (by walk_at "ev"))) (decide_eq_false c) ?_
    exact p_ret (e_min2 (i := m) (j := turnM (-v) u) (p_cons (e_var rfl) (p_cons (p_call (R := RTurn) (ds := [.i (-v), .i u]) (p_cons (p_neg (e_var rfl)) (p_cons (e_var rfl) a_nil)) ⟨-v, u, rfl, by omega, hu, rfl⟩) a_nil)))
theorem fok_first_below (Tp : Top K mg base) : FnOk P w K mg base CX0 2 Tp.f_first_below Tp.d_first_below ["start", "speed", "pull", "last"] (spP K RFirstB) := by
  have G_height_after := fok_height_after (P := P) (w := w) (base := base) Tp
  refine Tp.F_first_below.ok sc_first_below (fun vs H Q E h => len_P (fun _ _ ⟨_, _, _, _, _, e, _⟩ => by rw [e]; rfl) h) (fun cdv A outer s H vs Q E hr h => ?_)
  refine ⟨_, (pss_cons (ps_set (i := 4) sc_first_below.nd rfl (.inl rfl) pe_int)
      (pss_cons (ps_set (i := 5) sc_first_below.nd rfl (.inl rfl) (pv 3))
      (pss_cons (ps_while PassesOwn.never (pt_cmpR op_lt (pv 4) (pv 5) (nomark _)) (pss_cons (ps_set (i := 6) sc_first_below.nd rfl (.inl rfl) (pe_op op_fdivW (pe_op op_add (pv 4) (pv 5)) pe_int))
      (pss_one (ps_if (pt_cmpR op_gt (pe_call G_height_after (hr.mono (by decide)) (by rfl) Tp.g_height_after Tp.F_height_after.kp Tp.b_height_after .nil pass0 (pa_cons (pv 0) (pa_cons (pv 1) (pa_cons (pv 2) (pa_cons (pv 6) pa_nil))))) pe_int (nomark _)) (pss_one (ps_set (i := 4) sc_first_below.nd rfl (.inl rfl) (pe_op op_add (pv 6) pe_int))) (pss_one (ps_set (i := 5) sc_first_below.nd rfl (.inl rfl) (pv 6)))))))
      (pss_one (ps_ret (pv 4)))))), body_P ?_ h⟩
  refine fun ds d r I => ?_
  obtain ⟨a, v, u, l, r, rfl, h, l0, l1, sg, hl, r0, r1, hr, hp, rfl⟩ := r
  walk_at "norm"
  refine q_asg (d := .i 1) (by walk_at "ev") ?_
  refine q_asg (d := .i l) (by walk_at "ev") ?_
  refine s_seq (ρ1 := [some (.i a), some (.i v), some (.i u), some (.i l), some (.i (r : Nat)), none, none]) (J := I) ?_ (p_ret (e_var rfl))
  refine s_lessN (ρ' := [some (.i a), some (.i v), some (.i u), some (.i l), some (.i (r : Nat)), some (.i (r : Nat)), none]) ⟨.inr rfl, .inr rfl, .inr rfl, .inr rfl, .inr rfl, .inl rfl, .inr rfl, trivial⟩ ?_
  refine s_while (α := Int × Int) (fun s => 1 ≤ s.1 ∧ s.1 ≤ (r : Int) ∧ (r : Int) ≤ s.2 ∧ s.2 ≤ l) (fun s => [some (.i a), some (.i v), some (.i u), some (.i l), some (.i s.1), some (.i s.2), none]) (fun _ => I) (fun s => (s.2 - s.1).toNat) (1, l) ⟨by omega, by omega, by omega, by omega⟩ fun s iv => ?_
  obtain ⟨lo, hi⟩ := s
  obtain ⟨i1, i2, i3, i4⟩ := iv
  dsimp only at i1 i2 i3 i4 ⊢
  by_cases c : lo < hi
  · refine .inl ⟨t_is (p_test (p_lt (i := lo) (j := hi) (by walk_at "ev") (by walk_at "ev"))) (decide_eq_true c), .inl ?_⟩
    have m1 : lo ≤ (lo + hi) / 2 := by omega
    have m2 : (lo + hi) / 2 < hi := by omega
    have asg : PL.S K _ [some (.i a), some (.i v), some (.i u), some (.i l), some (.i lo), some (.i hi), none] I (.nx [some (.i a), some (.i v), some (.i u), some (.i l), some (.i lo), some (.i hi), some (.i ((lo + hi) / 2))] I) := p_asg (i := 6) (d := .i ((lo + hi) / 2)) (p_div (p_add (e_var (i := 4) rfl) (e_var (i := 5) rfl)) e_int (divW (n := 3) (by decide) (by decide) (by decide)))
    generalize (lo + hi) / 2 = m at *
    by_cases q : 0 < hgt a v u m
    · refine ⟨(m + 1, hi), ⟨by dsimp only; omega, ?_, i3, i4⟩, by dsimp only; omega, s_seq asg (s_lessN (ρ' := [some (.i a), some (.i v), some (.i u), some (.i l), some (.i (m + 1)), some (.i hi), some (.i m)]) ⟨.inr rfl, .inr rfl, .inr rfl, .inr rfl, .inr rfl, .inr rfl, .inl rfl, trivial⟩ (q_ifT (p_test (p_gt (i := hgt a v u m) (j := 0) (p_call (T := noT) (R := RHgt) (ds := [.i a, .i v, .i u, .i m]) (p_cons (e_var (i := 0) rfl) (p_cons (e_var (i := 1) rfl) (p_cons (e_var (i := 2) rfl) (p_cons (e_var (i := 6) rfl) a_nil)))) ⟨a, v, u, m, rfl, h, by omega, by omega, rfl⟩) e_int)) (decide_eq_true q) (p_asg (d := .i (m + 1)) (by walk_at "ev"))))⟩
      dsimp only
      by_cases z : (r : Int) ≤ m
      · have := sgn_lt sg (by omega) z (by omega) hr
        omega
      · omega
    · refine ⟨(lo, m), ⟨i1, i2, ?_, by dsimp only; omega⟩, by dsimp only; omega, s_seq asg (s_lessN (ρ' := [some (.i a), some (.i v), some (.i u), some (.i l), some (.i lo), some (.i m), some (.i m)]) ⟨.inr rfl, .inr rfl, .inr rfl, .inr rfl, .inr rfl, .inr rfl, .inl rfl, trivial⟩ (q_ifF (p_test (p_gt (i := hgt a v u m) (j := 0) (p_call (T := noT) (R := RHgt) (ds := [.i a, .i v, .i u, .i m]) (p_cons (e_var (i := 0) rfl) (p_cons (e_var (i := 1) rfl) (p_cons (e_var (i := 2) rfl) (p_cons (e_var (i := 6) rfl) a_nil)))) ⟨a, v, u, m, rfl, h, by omega, by omega, rfl⟩) e_int)) (decide_eq_false q) (p_asg (d := .i m) (by walk_at "ev"))))⟩
      dsimp only
      by_cases z : m < (r : Int)
      · have := hp m.toNat (by omega) (by omega)
        rw [show ((m.toNat : Nat) : Int) = m by omega] at this
        omega
      · omega
  · refine .inr ⟨t_is (p_test (p_lt (i := lo) (j := hi) (by walk_at "ev") (by walk_at "ev"))) (decide_eq_false c), ?_⟩
    have e1 : lo = (r : Int) := by omega
    have e2 : hi = (r : Int) := by omega
    rw [e1, e2]
theorem fok_Search_worst_line (Tp : Top K mg base) : FnOk P w K mg base CX0 2 Tp.f_Search_worst_line Tp.d_Search_worst_line ["self"] (spP K (RWorst0 K Tp.C_Search)) := by
  have G_common_denominator := fok_common_denominator (P := P) (w := w) (base := base) Tp
  refine Tp.F_Search_worst_line.ok sc_Search_worst_line (fun vs H Q E h => len_P (fun _ _ ⟨_, _, e, _⟩ => by rw [e]; rfl) h) (fun cdv A outer s H vs Q E hr h => ?_)
  refine ⟨_, (pss_cons (ps_set (i := 1) sc_Search_worst_line.nd rfl (.inr rfl) (pe_call G_common_denominator (hr.mono (by decide)) (by rfl) Tp.g_common_denominator Tp.F_common_denominator.kp Tp.b_common_denominator .nil pass0 (pa_cons (pe_fld (pv 0) rfl) pa_nil)))
      (pss_cons (ps_set (i := 3) sc_Search_worst_line.nd rfl (.inr rfl) (pe_lc (own := [("number", 12), ("denominator", 2)]) (g := (gTup K 2 (gCons (gName 12) (gCons (gName 2) gNil)))) (tt := tYes) rfl sc_Search_worst_line.nd (pi_list (pe_fld (pv 0) rfl)) (blkOk_by (N := ["self", "common", "denominator", "point", "worst", "most", "unit", "line", "edge", "total", "miss", "size", "number", "spot", "factor"]) (sc := defScope s_Search_worst_line) (by decide +kernel)) (fun _ _ _ _ _ => (pg_tup rfl (pgs_cons (pg_name (i := 12) sc_Search_worst_line.nd rfl (Or.inl rfl)) (pgs_cons (pg_name (i := 2) sc_Search_worst_line.nd rfl (Or.inl rfl)) pgs_nil)))) (fun _ _ _ _ _ => pts_nil) (fun _ _ _ _ _ => (pe_op op_mulW (pv 12) (pe_op op_fdivW (pv 1) (pv 2))))))
      (pss_cons (ps_set (i := 4) sc_Search_worst_line.nd rfl (.inl rfl) pe_non)
      (pss_cons (ps_set (i := 5) sc_Search_worst_line.nd rfl (.inl rfl) pe_int)
      (pss_cons (ps_set (i := 6) sc_Search_worst_line.nd rfl (.inl rfl) pe_int)
      (pss_cons (ps_for PassesOwn.never rfl (pi_enum (by rfl) Tp.n_enumerate (pa_cons (pe_fld (pv 0) rfl) pa_nil)) (pg_tup rfl (pgs_cons (pg_name (i := 7) sc_Search_worst_line.nd rfl (.inl rfl)) (pgs_cons (pg_tup rfl (pgs_cons (pg_name (i := 8) sc_Search_worst_line.nd rfl (.inl rfl)) (pgs_cons (pg_name (i := 2) sc_Search_worst_line.nd rfl (.inl rfl)) pgs_nil))) pgs_nil))) (pss_cons (ps_set (i := 9) sc_Search_worst_line.nd rfl (.inl rfl) (pe_callB (cr_sum (by rfl)) (by rfl) Tp.n_sum (by decide +kernel) (pa_cons (pe_lc (own := [("spot", 13), ("factor", 14)]) (g := (gTup K 2 (gCons (gName 13) (gCons (gName 14) gNil)))) (tt := tYes) rfl sc_Search_worst_line.nd (pi_items (pe_ix (r := rIxL K) ix_list (pe_fld (pv 0) rfl) (pv 7) (fun _ _ => rfl))) (blkOk_by (N := ["self", "common", "denominator", "point", "worst", "most", "unit", "line", "edge", "total", "miss", "size", "number", "spot", "factor"]) (sc := defScope s_Search_worst_line) (by decide +kernel)) (fun _ _ _ _ _ => (pg_tup rfl (pgs_cons (pg_name (i := 13) sc_Search_worst_line.nd rfl (Or.inl rfl)) (pgs_cons (pg_name (i := 14) sc_Search_worst_line.nd rfl (Or.inl rfl)) pgs_nil)))) (fun _ _ _ _ _ => pts_nil) (fun _ _ _ _ _ => (pe_op op_mulW (pv 14) (pe_ix (r := rIxL K) ix_list (pv 3) (pv 13) (fun _ _ => rfl))))) pa_nil)))
      (pss_cons (ps_set (i := 10) sc_Search_worst_line.nd rfl (.inl rfl) (pe_op op_sub (pe_op op_mulW (pv 8) (pv 1)) (pe_op op_mulW (pv 9) (pv 2))))
      (pss_cons (ps_set (i := 11) sc_Search_worst_line.nd rfl (.inl rfl) (pe_op op_mulW (pv 2) (pe_ix (r := rIxL K) ix_list (pe_fld (pv 0) rfl) (pv 7) (fun _ _ => rfl))))
      (pss_one (ps_if (pt_cmpR op_gt (pe_op op_mulW (pv 10) (pv 6)) (pe_op op_mulW (pv 5) (pv 11)) (nomark _)) (pss_one (ps_par3 (i := 4) (j := 5) (l := 6) rfl sc_Search_worst_line.nd rfl rfl rfl (by decide) (by decide) (by decide) rfl rfl rfl (pa_cons (pv 7) (pa_cons (pv 10) (pa_cons (pv 11) pa_nil))) (by rfl))) pss_nil))))))
      (pss_one (ps_ret (pv 4))))))))), body_P ?_ h⟩
  refine fun ds d r I => ?_
  obtain ⟨ws, ts, rfl, h, rfl⟩ := r
  walk_at "norm"
  have hl := h.le
  have cs : denM ts < 2 ^ 6800 := Nat.lt_of_lt_of_le (den_sz _ 1 1 (by decide) h.ok) (Nat.pow_le_pow_right (by decide) (by omega))
  refine q_asg (d := .i (denM ts : Nat)) (p_call (R := RDen) (ds := [.d (.list (ts.map fr))]) (p_cons (e_fld Tp.cl_Search Tp.na_Search_point (e_var (i := 0) rfl) (fs_point ws ts)) a_nil) ⟨ts, rfl, h.ok, hl, rfl⟩) ?_
  refine q_asg (d := .d (.list ((numsM ts).map PyData.int))) (e_lcW (es := (numsM ts).map PyData.int) (iw_l (ds := ts.map fr) (e_fld Tp.cl_Search Tp.na_Search_point (e_var (i := 0) rfl) (fs_point ws ts))) (by unfold numsM; rw [List.length_map, List.length_map, List.length_map]) (by rw [List.length_map]; omega) fun i y hi hy => ?_) ?_
  · unfold numsM at hy
    rw [List.map_map] at hy
    obtain ⟨z, hz, rfl⟩ := getElem?_of_map hy
    rw [at0_map hz]
    have hz1 := h.ok z (List.mem_of_getElem? hz)
    have dz := divW (i := ((denM ts : Nat) : Int)) (j := z.2) (n := 110) hz1.nrm.1 hz1.sz.2 (by decide)
    have qz : (((denM ts : Nat) : Int) / z.2).natAbs < 2 ^ 6800 := by
      refine Nat.lt_of_le_of_lt ?_ cs
      have := Int.natAbs_ediv_le_natAbs ((denM ts : Nat) : Int) z.2
      rw [Int.natAbs_natCast] at this
      exact this
    exact ⟨_, w_tup rfl (w_cons (w_name (by decide)) (w_cons (w_name (by decide)) w_nil)), fun I' => p_mul (e_var rfl) (p_div (e_var rfl) (e_var rfl) dz) (mulW hz1.sz.1 qz (by decide))⟩
  refine q_asg (d := .d .none) e_non ?_
  refine q_asg (d := .i 0) e_int ?_
  refine q_asg (d := .i 1) e_int ?_
  exact s_for0S (iw_e (ds := []) (p_cons (e_fld Tp.cl_Search Tp.na_Search_edges (e_var (i := 0) rfl) (fs_edges ws ts)) a_nil)) rfl (p_ret (e_var rfl))
theorem fok_Search_forces (Tp : Top K mg base) : FnOk P w K mg base CX0 2 Tp.f_Search_forces Tp.d_Search_forces ["self"] (spP K (RForces0 K Tp.C_Search)) := by
  have G_times := fok_times (P := P) (w := w) (base := base) Tp
  refine Tp.F_Search_forces.ok sc_Search_forces (fun vs H Q E h => len_P (fun _ _ ⟨_, _, e, _⟩ => by rw [e]; rfl) h) (fun cdv A outer s H vs Q E hr h => ?_)
  refine ⟨_, (pss_one (ps_ret (pe_callTy call_tuple_of (by rfl) Tp.n_tuple (by decide +kernel) (pa_cons (pe_lc (own := [("line", 1)]) (g := gName 1) rfl sc_Search_forces.nd (pi_list (pe_callB (call_sortedDI rfl) (by rfl) Tp.n_sorted (by decide +kernel) (pa_cons (pe_fld (pv 0) rfl) pa_nil))) (blkOk_by (N := ["self", "line"]) (sc := defScope s_Search_forces) (by decide +kernel)) (fun _ _ _ _ _ => pg_name (i := 1) sc_Search_forces.nd rfl (Or.inl rfl)) (fun _ _ _ _ _ => (pts_one (pt_cmpR (r := rNeD K) (op_neD hr.units) (pe_dget (hu_of hr) (OB.pe_fldK (K := K) rfl (pv 0) (by rfl)) (pv 1) (fun _ _ => rfl)) (pe_glob (v := .ref Tp.k_ZERO) (by rfl) Tp.gk_ZERO rfl) (nomark _)))) (fun _ _ _ _ _ => (pe_tup (pa_cons (pv 1) (pa_cons (pe_call G_times (hr.mono (by decide)) (by rfl) Tp.g_times Tp.F_times.kp Tp.b_times .nil pass0 (pa_cons (pe_dget (hu_of hr) (OB.pe_fldK (K := K) rfl (pv 0) (by rfl)) (pv 1) (fun _ _ => rfl)) (pa_cons (pe_tup (pa_cons (pe_ix (r := rIxL K) ix_list (OB.pe_fldK (K := K) rfl (pv 0) (by rfl)) (pv 1) (fun _ _ => rfl)) (pa_cons pe_int pa_nil))) pa_nil))) pa_nil))))) pa_nil)))), body_P ?_ h⟩
  refine fun ds d r I => ?_
  obtain ⟨ws, pts, rfl, rfl⟩ := r
  walk_at "norm"
  exact p_ret (e_tupOf (p_cons (e_lcTW (n := 0) (b := fun _ => true) (e := fun _ => .none) (e_iwn (iw_l (ds := []) (e_sortD0 (p_cons (e_fld Tp.cl_Search Tp.na_Search_amounts (e_var (i := 0) rfl) (fs_amounts ws pts)) a_nil))) rfl) (by decide) fun i hi => absurd hi (Nat.not_lt_zero _)) a_nil))
theorem fok_scale_of (Tp : Top K mg base) : FnOk P w K mg base CX0 2 Tp.f_scale_of Tp.d_scale_of ["parts"] (spP K fun _ _ => False) := by
  have G_common_denominator := fok_common_denominator (P := P) (w := w) (base := base) Tp
  refine Tp.F_scale_of.ok sc_scale_of (fun vs H Q E h => by obtain ⟨_, _, _, _, _, r, _⟩ := h; exact r.elim) (fun cdv A outer s H vs Q E hr h => ?_)
  obtain ⟨_, _, _, _, _, r, _⟩ := h
  exact r.elim
theorem fok_ends_of (Tp : Top K mg base) : FnOk P w K mg base CX0 2 Tp.f_ends_of Tp.d_ends_of ["box"] (spP K REnds) := by
  have G_plus := fok_plus (P := P) (w := w) (base := base) Tp
  refine Tp.F_ends_of.ok sc_ends_of (fun vs H Q E h => len_P (fun _ _ z => by obtain ⟨_, e, _⟩ := z; rw [e]; rfl) h) (fun cdv A outer s H vs Q E hr h => ?_)
  refine ⟨_, (pss_cons (ps_asg (pv 0) (pg_tup rfl (pgs_cons (pg_tup rfl (pgs_cons (pg_name (i := 1) sc_ends_of.nd rfl (.inl rfl)) (pgs_cons (pg_name (i := 2) sc_ends_of.nd rfl (.inl rfl)) pgs_nil))) (pgs_cons (pg_tup rfl (pgs_cons (pg_name (i := 3) sc_ends_of.nd rfl (.inl rfl)) (pgs_cons (pg_name (i := 4) sc_ends_of.nd rfl (.inl rfl)) pgs_nil))) pgs_nil))))
      (pss_one (ps_ret (pe_tup (pa_cons (pe_tup (pa_cons (pv 1) (pa_cons (pe_call G_plus (hr.mono (by decide)) (by rfl) Tp.g_plus Tp.F_plus.kp Tp.b_plus .nil pass0 (pa_cons (pv 1) (pa_cons (pv 3) pa_nil))) pa_nil))) (pa_cons (pe_tup (pa_cons (pv 2) (pa_cons (pe_call G_plus (hr.mono (by decide)) (by rfl) Tp.g_plus Tp.F_plus.kp Tp.b_plus .nil pass0 (pa_cons (pv 2) (pa_cons (pv 4) pa_nil))) pa_nil))) pa_nil)))))), body_P ?_ h⟩
  refine fun ds d r I => ?_
  obtain ⟨b, rfl, h1, h2, h3, h4, rfl⟩ := r
  walk_at "norm"
  refine s_seq (s_asgG (e_var rfl) (g_tup rfl (g_cons (g_tup rfl (g_cons g_name (g_cons g_name g_nil))) (g_cons (g_tup rfl (g_cons g_name (g_cons g_name g_nil))) g_nil)))) ?_
  refine p_ret (p_tup2 (p_cons (p_tup2 (p_cons (by walk_at "ev") (p_cons (p_call (R := RPlus plusM) (ds := [.d (fr b.p0), .d (fr b.s0)]) (by walk_at "ev") (RPlus.mk h1 h3)) a_nil))) (p_cons (p_tup2 (p_cons (by walk_at "ev") (p_cons (p_call (R := RPlus plusM) (ds := [.d (fr b.p1), .d (fr b.s1)]) (by walk_at "ev") (RPlus.mk h2 h4)) a_nil))) a_nil)))
theorem fok_is_body_sound (Tp : Top K mg base) : FnOk P w K mg base CX0 2 Tp.f_is_body_sound Tp.d_is_body_sound ["body"] (spP K RSound) := by
  have G_is_sized := fok_is_sized (P := P) (w := w) (base := base) Tp
  have G_compare := fok_compare (P := P) (w := w) (base := base) Tp
  refine Tp.F_is_body_sound.ok sc_is_body_sound (fun vs H Q E h => len_P (fun _ _ ⟨_, e, _⟩ => by rw [e]; rfl) h) (fun cdv A outer s H vs Q E hr h => ?_)
  refine ⟨_, (pss_cons (ps_asg (pv 0) (pg_tup rfl (pgs_cons (pg_name (i := 1) sc_is_body_sound.nd rfl (.inl rfl)) (pgs_cons (pg_name (i := 1) sc_is_body_sound.nd rfl (.inl rfl)) (pgs_cons (pg_name (i := 2) sc_is_body_sound.nd rfl (.inl rfl)) (pgs_cons (pg_name (i := 3) sc_is_body_sound.nd rfl (.inl rfl)) (pgs_cons (pg_name (i := 4) sc_is_body_sound.nd rfl (.inl rfl)) (pgs_cons (pg_name (i := 5) sc_is_body_sound.nd rfl (.inl rfl)) pgs_nil))))))))
      (pss_cons (ps_if (PW.pt (pw_or (pt_not (pt_val (pe_call G_is_sized (hr.mono (by decide)) (by rfl) Tp.g_is_sized Tp.F_is_sized.kp Tp.b_is_sized .nil pass0 (pa_cons (pv 2) pa_nil)))) (pw_or (pt_cmpR op_lt (pv 3) pe_int (nomark _)) (pw_or1 (pt_cmpR op_gt (pv 3) (pe_glob (v := .int 1000) (by rfl) Tp.gk_MASS_LIMIT ⟨_, rfl⟩) (nomark _)))))) (pss_one (ps_ret pe_bl)) pss_nil)
      (pss_cons (ps_if (PW.pt (pw_or (pt_cmpR op_lt (pe_call G_compare (hr.mono (by decide)) (by rfl) Tp.g_compare Tp.F_compare.kp Tp.b_compare .nil pass0 (pa_cons (pv 4) (pa_cons (pe_glob (v := .ref Tp.k_ZERO) (by rfl) Tp.gk_ZERO rfl) pa_nil))) pe_int (nomark _)) (pw_or1 (pt_cmpR op_gt (pe_call G_compare (hr.mono (by decide)) (by rfl) Tp.g_compare Tp.F_compare.kp Tp.b_compare .nil pass0 (pa_cons (pv 4) (pa_cons (pe_glob (v := .ref Tp.k_GRIP_LIMIT) (by rfl) Tp.gk_GRIP_LIMIT rfl) pa_nil))) pe_int (nomark _))))) (pss_one (ps_ret pe_bl)) pss_nil)
      (pss_one (ps_ret (pe_or (pe_cmpR op_gt (pv 3) pe_int (nomark _)) (pe_one (pe_cmpR (op_eqD hr.units) (pv 5) (pe_glob (v := .ref Tp.k_STANDING) (by rfl) Tp.gk_STANDING rfl) (nomark _))))))))), body_P ?_ h⟩
  refine fun ds d r I => ?_
  obtain ⟨b, rfl, hb, rfl⟩ := r
  walk_at "norm"
  refine s_seq (s_asgG (e_var rfl) (g_tup rfl (g_cons g_name (g_cons g_name (g_cons g_name (g_cons g_name (g_cons g_name (g_cons g_name g_nil)))))))) ?_
  unfold soundM
  by_cases c1 : (!b.bx.sized || (decide (b.ms < 0) || decide (1000 < b.ms))) = true
  · rw [c1]
    exact s_stop (q_ifT (t_or (t_not (t_B (p_call (R := RSized) (ds := [.t [fr b.bx.s0, fr b.bx.s1]]) (by walk_at "ev") ⟨_, _, rfl, rfl⟩))) fun _ => t_or (p_test (p_lt (i := b.ms) (j := 0) (by walk_at "ev") (by walk_at "ev"))) fun _ => p_test (p_gt (i := b.ms) (j := 1000) (e_var rfl) e_int)) c1 (p_ret e_bl))
  · have c1 := Bool.eq_false_iff.mpr c1
    rw [c1]
    refine q_skip (t_or (t_not (t_B (p_call (R := RSized) (ds := [.t [fr b.bx.s0, fr b.bx.s1]]) (by walk_at "ev") ⟨_, _, rfl, rfl⟩))) fun _ => t_or (p_test (p_lt (i := b.ms) (j := 0) (by walk_at "ev") (by walk_at "ev"))) fun _ => p_test (p_gt (i := b.ms) (j := 1000) (e_var rfl) e_int)) c1 ?_
    by_cases c2 : (decide (cmpM b.gr (0, 1) < 0) || decide (0 < cmpM b.gr (4, 1))) = true
    · rw [c2]
      exact s_stop (q_ifT (t_or (p_test (p_lt (i := cmpM b.gr (0, 1)) (j := 0) (p_call (R := RCmp) (ds := [.d (fr b.gr), .d (fr ((0, 1) : F))]) (p_cons (e_var rfl) (p_cons (e_glob (dp_const Tp.dk_ZERO fun G => .cons (.int 0) (.cons (.int 1) .nil))) a_nil)) ⟨_, _, rfl, hb.gr.mono (by decide), ok_c0 (by decide), rfl⟩) e_int)) fun _ => p_test (p_gt (i := cmpM b.gr (4, 1)) (j := 0) (p_call (R := RCmp) (ds := [.d (fr b.gr), .d (fr ((4, 1) : F))]) (p_cons (e_var rfl) (p_cons (e_glob (dp_const Tp.dk_GRIP_LIMIT fun G => .cons (.int 4) (.cons (.int 1) .nil))) a_nil)) ⟨_, _, rfl, hb.gr.mono (by decide), ok_c4.mono (by decide), rfl⟩) e_int)) c2 (p_ret e_bl))
    · have c2 := Bool.eq_false_iff.mpr c2
      rw [c2]
      refine q_skip (t_or (p_test (p_lt (i := cmpM b.gr (0, 1)) (j := 0) (p_call (R := RCmp) (ds := [.d (fr b.gr), .d (fr ((0, 1) : F))]) (p_cons (e_var rfl) (p_cons (e_glob (dp_const Tp.dk_ZERO fun G => .cons (.int 0) (.cons (.int 1) .nil))) a_nil)) ⟨_, _, rfl, hb.gr.mono (by decide), ok_c0 (by decide), rfl⟩) e_int)) fun _ => p_test (p_gt (i := cmpM b.gr (4, 1)) (j := 0) (p_call (R := RCmp) (ds := [.d (fr b.gr), .d (fr ((4, 1) : F))]) (p_cons (e_var rfl) (p_cons (e_glob (dp_const Tp.dk_GRIP_LIMIT fun G => .cons (.int 4) (.cons (.int 1) .nil))) a_nil)) ⟨_, _, rfl, hb.gr.mono (by decide), ok_c4.mono (by decide), rfl⟩) e_int)) c2 ?_
      exact p_ret (e_orV (p_gt (i := b.ms) (j := 0) (e_var rfl) e_int) fun _ => p_eqD (x := vcd b.v0 b.v1) (y := vcd (0, 1) (0, 1)) (e_var rfl) (e_glob Tp.dk_STANDING) rfl rfl)
theorem fok_are_moving_names (Tp : Top K mg base) : FnOk P w K mg base CX0 2 Tp.f_are_moving_names Tp.d_are_moving_names ["bodies", "names"] (spP K RMovN) := by
  have G_is_moving := fok_is_moving (P := P) (w := w) (base := base) Tp
  refine Tp.F_are_moving_names.ok sc_are_moving_names (fun vs H Q E h => len_P (fun _ _ ⟨_, _, e, _⟩ => by rw [e]; rfl) h) (fun cdv A outer s H vs Q E hr h => ?_)
  refine ⟨_, (pss_cons (PX.ps_setDc (i := 2) (own := [("body", 5)]) (tt := tYes) rfl sc_are_moving_names.nd rfl rfl (PX.sw_trueD rfl rfl rfl rfl) (pi_tup (pv 0)) (blkOk_by (N := ["bodies", "names", "moving", "before", "name", "body"]) (sc := defScope s_are_moving_names) (by decide +kernel)) (fun _ _ _ _ _ => (pg_name (i := 5) sc_are_moving_names.nd rfl (Or.inl rfl))) (fun _ _ _ _ _ => pts_nil) (fun _ _ _ _ _ => (pe_ix (r := rIxT K) ix_tup (pv 5) pe_int (fun _ _ => rfl))) (fun _ _ _ _ _ => (pe_call G_is_moving (hr.mono (by decide)) (by rfl) Tp.g_is_moving Tp.F_is_moving.kp Tp.b_is_moving .nil pass0 (pa_cons (pv 5) pa_nil))))
      (pss_cons (ps_set (i := 3) sc_are_moving_names.nd rfl (.inl rfl) (pe_un un_neg pe_int))
      (pss_cons (ps_for PassesOwn.never rfl (pi_list (pv 1)) (pg_name (i := 4) sc_are_moving_names.nd rfl (.inl rfl)) (pss_cons (ps_if (PW.pt (pw_or (pt_cmpR op_le (pv 4) (pv 3) (nomark _)) (pw_or1 (pt_not (pt_val (pe_dget2 (hu_of hr) (pv 2) (pv 4) pe_bl ⟨rfl, rfl, rfl, rfl⟩)))))) (pss_one (ps_ret pe_bl)) pss_nil)
      (pss_one (ps_set (i := 3) sc_are_moving_names.nd rfl (.inl rfl) (pv 4)))))
      (pss_one (ps_ret pe_bl))))), body_P ?_ h⟩
  refine fun ds d r I => ?_
  obtain ⟨bs, ns, rfl, nd, hl, rfl⟩ := r
  walk_at "norm"
  refine q_asg (d := .k (movM bs)) (e_dcW (ks := bs.map (·.nm)) (es := bs.map fun z => .bool (decide (0 < z.ms))) (iw_t (e_var rfl)) (by rw [List.length_map, List.length_map]) (by rw [List.length_map, List.length_map]) (by rw [List.length_map]; exact hl) nd fun i m y hi hm hy => ?_) ?_
  ·
    obtain ⟨z, hz, rfl⟩ := getElem?_of_map hy
    rw [List.getElem?_map, hz] at hm
    obtain rfl : z.nm = m := Option.some.inj hm
    rw [at0_map hz]
    exact ⟨_, w_name List.mem_cons_self, fun I' => p_i0 (e_var rfl), fun I' => p_call (R := RMoving) (ds := [.d (bdD z)]) (by walk_at "ev") ⟨z, rfl, rfl⟩⟩
  refine q_asg (d := .i (-1)) (by walk_at "ev") ?_
  cases h0 : badN bs (-1) ns with
  | false =>
    refine s_loopR (α := Int) (bs := ns) (f := fun _ z => PyData.int z) (fun i rest bf => badN bs bf rest = false) (fun bf => [some (.t (bs.map bdD)), some (.d (.list (ns.map PyData.int))), some (.k (movM bs)), some (.i bf), none, none]) (fun _ => I) (-1) h0 (iw_l (e_var rfl)) (by rw [List.length_map]) (fun i z h => at0_map h) rfl (fun i z rest bf hw => ?_) (fun bf i hw => p_ret e_bl)
    have h1 : ((decide (z ≤ bf) || !movB bs z) || badN bs z rest) = false := hw
    rw [Bool.or_eq_false_iff] at h1
    refine ⟨_, g_name, .inl ⟨z, h1.2, ?_⟩⟩
    refine s_lessN (ρ' := [some (.t (bs.map bdD)), some (.d (.list (ns.map PyData.int))), some (.k (movM bs)), some (.i z), some (.i z), none]) ⟨.inr rfl, .inr rfl, .inr rfl, .inr rfl, .inl rfl, .inr rfl, trivial⟩ ?_
    exact q_skip (t_or (p_test (p_le (i := z) (j := bf) (e_var rfl) (e_var rfl))) fun _ => t_not (t_B (e_kGetOr (y := .bool false) (e_var rfl) (e_var rfl) e_bl (by rw [mov_get])))) h1.1 (p_asg (by walk_at "ev"))
  | true =>
    refine s_loopR (α := Int) (bs := ns) (f := fun _ z => PyData.int z) (fun i rest bf => badN bs bf rest = true) (fun bf => [some (.t (bs.map bdD)), some (.d (.list (ns.map PyData.int))), some (.k (movM bs)), some (.i bf), none, none]) (fun _ => I) (-1) h0 (iw_l (e_var rfl)) (by rw [List.length_map]) (fun i z h => at0_map h) rfl (fun i z rest bf hw => ?_) (fun bf i hw => (by cases hw))
    have h1 : ((decide (z ≤ bf) || !movB bs z) || badN bs z rest) = true := hw
    by_cases c : (decide (z ≤ bf) || !movB bs z) = true
    · exact ⟨_, g_name, .inr ⟨ret_rt, s_stopR ret_rt (q_ifT (t_or (p_test (p_le (i := z) (j := bf) (e_var rfl) (e_var rfl))) fun _ => t_not (t_B (e_kGetOr (y := .bool false) (e_var rfl) (e_var rfl) e_bl (by rw [mov_get])))) c (p_ret e_bl))⟩⟩
    · have c := Bool.eq_false_iff.mpr c
      rw [c, Bool.false_or] at h1
      refine ⟨_, g_name, .inl ⟨z, h1, ?_⟩⟩
      refine s_lessN (ρ' := [some (.t (bs.map bdD)), some (.d (.list (ns.map PyData.int))), some (.k (movM bs)), some (.i z), some (.i z), none]) ⟨.inr rfl, .inr rfl, .inr rfl, .inr rfl, .inl rfl, .inr rfl, trivial⟩ ?_
      exact q_skip (t_or (p_test (p_le (i := z) (j := bf) (e_var rfl) (e_var rfl))) fun _ => t_not (t_B (e_kGetOr (y := .bool false) (e_var rfl) (e_var rfl) e_bl (by rw [mov_get])))) c (p_asg (by walk_at "ev"))
theorem fok_pairs_of (Tp : Top K mg base) : FnOk P w K mg base CX0 2 Tp.f_pairs_of Tp.d_pairs_of ["items"] (spP K RPairsI) := by
  have G_is_moving := fok_is_moving (P := P) (w := w) (base := base) Tp
  refine Tp.F_pairs_of.ok sc_pairs_of (fun vs H Q E h => len_P (fun _ _ ⟨_, e, _⟩ => by rw [e]; rfl) h) (fun cdv A outer s H vs Q E hr h => ?_)
  refine ⟨_, (pss_one (ps_ret (pe_lc2 (own := [("at", 1), ("one", 2), ("other", 3)]) (vs1 := [3]) (g := (gTup K 2 (gCons (gName 1) (gCons (gName 2) gNil)))) (g1 := (gName 3)) (wi1 := iList K _) (tt := tYes) rfl sc_pairs_of.nd (pi_enum (by rfl) Tp.n_enumerate (pa_cons (pv 0) pa_nil)) (blkOk_by (N := ["items", "at", "one", "other"]) (sc := defScope s_pairs_of) (by decide +kernel)) (by decide) (fun _ _ _ _ _ => (pg_tup rfl (pgs_cons (pg_name (i := 1) sc_pairs_of.nd rfl (Or.inl rfl)) (pgs_cons (pg_name (i := 2) sc_pairs_of.nd rfl (Or.inl rfl)) pgs_nil)))) (fun _ _ _ _ _ => pts_nil) (fun _ _ _ _ _ => (pi_list (pe_slice (r := rSlL K) sl_list (pv 0) (po_some (pe_op op_add (pv 1) pe_int)) po_none))) (fun _ _ _ _ _ => (pg_name (i := 3) sc_pairs_of.nd rfl (Or.inl rfl))) (fun _ _ _ _ _ => (pts_one (PW.pt (pw_or (pt_val (pe_call G_is_moving (hr.mono (by decide)) (by rfl) Tp.g_is_moving Tp.F_is_moving.kp Tp.b_is_moving .nil pass0 (pa_cons (pe_ix (r := rIxT K) ix_tup (pv 2) pe_int (fun _ _ => rfl)) pa_nil))) (pw_or1 (pt_val (pe_call G_is_moving (hr.mono (by decide)) (by rfl) Tp.g_is_moving Tp.F_is_moving.kp Tp.b_is_moving .nil pass0 (pa_cons (pe_ix (r := rIxT K) ix_tup (pv 3) pe_int (fun _ _ => rfl)) pa_nil)))))))) (fun _ _ _ _ _ => (pe_tup (pa_cons (pv 2) (pa_cons (pv 3) pa_nil))))))), body_P ?_ h⟩
  refine fun ds d r I => ?_
  obtain ⟨its, rfl, hl, rfl⟩ := r
  walk_at "norm"
  obtain ⟨d0, hd0⟩ : ∃ d0 : It, d0 = ⟨⟨0, ⟨(0, 1), (0, 1), (0, 1), (0, 1)⟩, 0, (0, 1), (0, 1), (0, 1)⟩, .none, ((0, 1), (0, 1))⟩ := ⟨_, rfl⟩
  have eq := rows_prs d0 mvg (fun x y => prD (x, y)) its
  refine p_ret (e_is (e_lc2W (n := its.length) (m := fun i => (its.drop (i + 1)).length) (ys := fun i => at0 ((its.drop (i + 1)).map itD)) (b := fun i j => mvg (its.getD i d0) ((its.drop (i + 1)).getD j d0)) (e := fun i j => prD (its.getD i d0, (its.drop (i + 1)).getD j d0)) (e_iwn (iw_e (p_cons (e_var rfl) a_nil)) (by rw [List.length_map])) hl (fun i hi => by rw [List.length_drop]; omega) fun i hi => ?_) (by rw [eq]; rfl))
  have hx : its[i]? = some (its.getD i d0) := by rw [List.getD_eq_getElem?_getD, List.getElem?_eq_getElem hi]; rfl
  generalize its.getD i d0 = x at hx ⊢
  rw [at0_map hx]
  refine ⟨_, w_tup rfl (w_cons (w_name (by decide)) (w_cons (w_name (by decide)) w_nil)), fun I' => ?_, fun j hj => ?_⟩
  · have h := iw_ll (I := I') (K := K) (ρ := [some (.d (.list (its.map itD))), some (.i (i : Nat)), some (.d (itD x)), none]) (e_sliceFrom (j := i + 1) (e_var (i := 0) rfl) (e_is (p_add (i := ((i : Nat) : Int)) (j := 1) (e_var (i := 1) rfl) e_int) rfl))
    rw [← List.map_drop, List.length_map] at h
    exact h
  · have hy : (its.drop (i + 1))[j]? = some ((its.drop (i + 1)).getD j d0) := by rw [List.getD_eq_getElem?_getD, List.getElem?_eq_getElem hj]; rfl
    generalize (its.drop (i + 1)).getD j d0 = y at hy ⊢
    rw [at0_map hy]
    refine ⟨_, w_name (by decide), fun I' => t_or (t_B (p_call (R := RMoving) (ds := [.d (bdD x.b)]) (p_cons (p_i0 (e_var rfl)) a_nil) ⟨x.b, rfl, rfl⟩)) fun _ => t_B (p_call (R := RMoving) (ds := [.d (bdD y.b)]) (p_cons (p_i0 (e_var rfl)) a_nil) ⟨y.b, rfl, rfl⟩), fun _ I' => p_tup2 (by walk_at "ev")⟩
theorem fok_in_line (Tp : Top K mg base) : FnOk P w K mg base CX0 2 Tp.f_in_line Tp.d_in_line ["one", "other", "axis"] (spP K RInl) := by
  have G_compare := fok_compare (P := P) (w := w) (base := base) Tp
  refine Tp.F_in_line.ok sc_in_line (fun vs H Q E h => len_P (fun _ _ ⟨_, _, _, e, _⟩ => by rw [e]; rfl) h) (fun cdv A outer s H vs Q E hr h => ?_)
  refine ⟨_, (pss_cons (ps_if (pt_cmpR op_le (pe_call G_compare (hr.mono (by decide)) (by rfl) Tp.g_compare Tp.F_compare.kp Tp.b_compare .nil pass0 (pa_cons (pe_ix (r := rIxT K) ix_tup (pe_ix (r := rIxT K) ix_tup (pe_ix (r := rIxT K) ix_tup (pv 0) pe_int (fun _ _ => rfl)) (pv 2) (fun _ _ => rfl)) pe_int (fun _ _ => rfl)) (pa_cons (pe_ix (r := rIxT K) ix_tup (pe_ix (r := rIxT K) ix_tup (pe_ix (r := rIxT K) ix_tup (pv 1) pe_int (fun _ _ => rfl)) (pv 2) (fun _ _ => rfl)) pe_int (fun _ _ => rfl)) pa_nil))) pe_int (nomark _)) (pss_one (ps_ret (pe_tup (pa_cons (pv 0) (pa_cons (pv 1) pa_nil))))) pss_nil)
      (pss_one (ps_ret (pe_tup (pa_cons (pv 1) (pa_cons (pv 0) pa_nil)))))), body_P ?_ h⟩
  refine fun ds d r I => ?_
  obtain ⟨x, y, k, rfl, hx, hy, hk, rfl⟩ := r
  walk_at "norm"
  
  unfold inlM
  by_cases c : cmpM (hiB x.b.bx k) (loB y.b.bx k) ≤ 0
  · rw [if_pos c]
    exact s_stop (q_ifT (p_test (p_le (i := cmpM (hiB x.b.bx k) (loB y.b.bx k)) (j := 0) (p_call (R := RCmp) (ds := [.d (fr (hiB x.b.bx k)), .d (fr (loB y.b.bx k))]) (p_cons (p_i1 (p_ixT (ds := [vcd x.b.bx.p0 (plusM x.b.bx.p0 x.b.bx.s0), vcd x.b.bx.p1 (plusM x.b.bx.p1 x.b.bx.s1)]) (i := k) (e_is (p_i1 (e_var rfl)) (by rw [hx.e])) (e_var rfl) (end_at hk))) (p_cons (p_i0 (p_ixT (ds := [vcd y.b.bx.p0 (plusM y.b.bx.p0 y.b.bx.s0), vcd y.b.bx.p1 (plusM y.b.bx.p1 y.b.bx.s1)]) (i := k) (e_is (p_i1 (e_var rfl)) (by rw [hy.e])) (e_var rfl) (end_at hk))) a_nil)) ⟨_, _, rfl, (hx.hi k).mono (by decide), (hy.lo k).mono (by decide), rfl⟩) e_int)) (decide_eq_true c) (p_ret (p_tup2 (by walk_at "ev"))))
  · rw [if_neg c]
    exact q_skip (p_test (p_le (i := cmpM (hiB x.b.bx k) (loB y.b.bx k)) (j := 0) (p_call (R := RCmp) (ds := [.d (fr (hiB x.b.bx k)), .d (fr (loB y.b.bx k))]) (p_cons (p_i1 (p_ixT (ds := [vcd x.b.bx.p0 (plusM x.b.bx.p0 x.b.bx.s0), vcd x.b.bx.p1 (plusM x.b.bx.p1 x.b.bx.s1)]) (i := k) (e_is (p_i1 (e_var rfl)) (by rw [hx.e])) (e_var rfl) (end_at hk))) (p_cons (p_i0 (p_ixT (ds := [vcd y.b.bx.p0 (plusM y.b.bx.p0 y.b.bx.s0), vcd y.b.bx.p1 (plusM y.b.bx.p1 y.b.bx.s1)]) (i := k) (e_is (p_i1 (e_var rfl)) (by rw [hy.e])) (e_var rfl) (end_at hk))) a_nil)) ⟨_, _, rfl, (hx.hi k).mono (by decide), (hy.lo k).mono (by decide), rfl⟩) e_int)) (decide_eq_false c) (p_ret (p_tup2 (by walk_at "ev")))
theorem fok_parts_of (Tp : Top K mg base) : FnOk P w K mg base CX0 2 Tp.f_parts_of Tp.d_parts_of ["terms"] (spT K Tp.tabs RParts) := by
  refine Tp.F_parts_of.ok sc_parts_of (fun vs H Q E h => len_P (fun _ _ ⟨_, e, _⟩ => by rw [e]; rfl) h) (fun A outer s H vs Q E hr h => ?_)
  refine ⟨_, (pss_cons (ps_setLc (i := 1) (own := [("body", 2), ("axis", 3), ("factor", 4)]) (g := (gTup K 3 (gCons (gName 2) (gCons (gName 3) (gCons (gName 4) gNil))))) rfl sc_parts_of.nd rfl rfl (sw_true rfl rfl rfl rfl) (pi_list (pv 0)) (blkOk_by (N := ["terms", "parts", "body", "axis", "factor"]) (sc := defScope s_parts_of) (by decide +kernel)) (fun _ _ _ _ _ => (pg_tup rfl (pgs_cons (pg_name (i := 2) sc_parts_of.nd rfl (Or.inl rfl)) (pgs_cons (pg_name (i := 3) sc_parts_of.nd rfl (Or.inl rfl)) (pgs_cons (pg_name (i := 4) sc_parts_of.nd rfl (Or.inl rfl)) pgs_nil))))) (fun _ _ _ _ _ => (pts_one (pt_cmpR (r := rNeD K) (op_neD hr.units) (pv 4) (pe_glob (v := .ref Tp.k_ZERO) (by rfl) Tp.gk_ZERO rfl) (nomark _)))) (fun _ _ _ _ _ => (pe_tup (pa_cons (pe_ix (r := rIxT K) ix_tup (pv 2) pe_int (fun _ _ => rfl)) (pa_cons (pv 3) (pa_cons (pv 4) pa_nil))))))
      (pss_one (ps_ret (pe_callTy call_tuple_of (by rfl) Tp.n_tuple (by decide +kernel) (pa_cons (LM.pe_sortLam (a := "part") (k := 0) (by rfl) Tp.n_sorted ⟨Tp.tb_parts_of.code, Tp.tb_parts_of.bm, Tp.tb_parts_of.gP⟩ rfl (hr.mono (by decide)) ⟨rfl, rfl, rfl, by decide +kernel, by decide +kernel, by decide +kernel, by decide +kernel⟩ rfl rfl (fun _ _ _ _ _ => rfl) (pa_cons (pv 1) pa_nil)) pa_nil))))), body_T ?_ h⟩
  refine fun ds d r I hT => ?_
  obtain ⟨ts, rfl, hl, nd, rfl⟩ := r
  walk_at "norm"
  obtain ⟨d0, hd0⟩ : ∃ d0 : T3, d0 = (⟨0, ⟨(0, 1), (0, 1), (0, 1), (0, 1)⟩, 0, (0, 1), (0, 1), (0, 1)⟩, 0, (0, 1)) := ⟨_, rfl⟩
  have eR := row_get d0 (fun z : T3 => !decide (z.2.2 = (0, 1))) (fun z => paD (toP z)) ts
  have eP : ((ts.filter fun z => !decide (z.2.2 = (0, 1))).map fun z => paD (toP z)) = (partsM ts).map paD := by
    unfold partsM
    rw [List.map_map]
    rfl
  rw [eP] at eR
  have hlp : (partsM ts).length ≤ 1000 := by
    unfold partsM
    rw [List.length_map]
    exact Nat.le_trans (List.length_filter_le _ _) hl
  refine q_asg (d := .d (.list ((partsM ts).map paD))) (e_is (e_lcTW (n := ts.length) (b := fun j => !decide ((ts.getD j d0).2.2 = (0, 1))) (e := fun j => paD (toP (ts.getD j d0))) (e_iwn (iw_l (ds := ts.map tmD) (e_var rfl)) (by rw [List.length_map])) (by omega) fun i hi => ?_) (by rw [eR])) ?_
  · have hx : ts[i]? = some (ts.getD i d0) := by rw [List.getD_eq_getElem?_getD, List.getElem?_eq_getElem hi]; rfl
    generalize ts.getD i d0 = z at hx ⊢
    rw [at0_map hx]
    exact ⟨_, w_tup rfl (w_cons (w_name (by decide)) (w_cons (w_name (by decide)) (w_cons (w_name (by decide)) w_nil))), fun I' => t_is (p_test (p_neD (x := fr z.2.2) (y := fr (0, 1)) (e_var rfl) (e_glob (x := fr (0, 1)) fun G => .tup (Tp.dk_ZERO G) (.cons (.int 0) (.cons (.int 1) .nil))) rfl rfl)) (by rw [eqv_frd2]), fun _ I' => p_tup (ds := [.i z.1.nm, .i z.2.1, .d (fr z.2.2)]) (p_cons (p_i0 (e_var rfl)) (p_cons (e_var rfl) (p_cons (e_var rfl) a_nil))) (.cons (.cons (.cons .nil))) (show 3 ≤ 100000 by decide)⟩
  have hP : Tp.tp_parts_of ∈ Tp.tabs.ls := List.mem_cons_self
  refine p_ret (e_tupOf (p_cons (e_l2d (e_sortLam (T := Tp.tabs) (ds := (partsM ts).map paD) (es := (sortP (partsM ts)).map paD) hP Tp.ln_parts_of (p_cons (e_var rfl) a_nil) (fun d hd => ?_) ?_ ((sortP_perm _).map _) ?_)) a_nil))
  · obtain ⟨p, _, rfl⟩ := List.mem_map.mp hd
    exact ⟨_, _, _, rfl⟩
  · rw [List.map_map]
    exact nd
  · refine List.pairwise_map.mpr ((sortP_up _).imp fun {a b} h => ?_)
    simp only [lePa, decide_eq_true_iff] at h
    exact h
theorem fok_spots_of (Tp : Top K mg base) : FnOk P w K mg base CX0 2 Tp.f_spots_of Tp.d_spots_of ["state"] (spP K (RSpots1 P w K)) := by
  have G_is_moving := fok_is_moving (P := P) (w := w) (base := base) Tp
  refine Tp.F_spots_of.ok sc_spots_of (fun vs H Q E h => len_P (fun _ _ ⟨_, _, _, _, _, _, e, _⟩ => by rw [e]; rfl) h) (fun cdv A outer s H vs Q E hr h => ?_)
  refine ⟨_, (pss_cons (ps_setLc (i := 1) (own := [("body", 2)]) (g := gName 2) rfl sc_spots_of.nd rfl rfl (sw_true rfl rfl rfl rfl) (pi_tup (pe_ix (r := rIxT K) ix_tup (pv 0) pe_int (fun _ _ => rfl))) (blkOk_by (N := ["state", "names", "body", "at", "name", "axis"]) (sc := defScope s_spots_of) (by decide +kernel)) (fun _ _ _ _ _ => pg_name (i := 2) sc_spots_of.nd rfl (Or.inl rfl)) (fun _ _ _ _ _ => (pts_one (pt_val (pe_call G_is_moving (hr.mono (by decide)) (by rfl) Tp.g_is_moving Tp.F_is_moving.kp Tp.b_is_moving .nil pass0 (pa_cons (pv 2) pa_nil))))) (fun _ _ _ _ _ => (pe_ix (r := rIxT K) ix_tup (pv 2) pe_int (fun _ _ => rfl))))
      (pss_one (ps_ret (TK.pe_dx2 (own := [("at", 3), ("name", 4), ("axis", 5)]) (vs1 := [5]) (g := gTup K 2 (gCons (gName 3) (gCons (gName 4) gNil))) (g1 := gName 5) (ws1 := iTup K _) (Nat.lt_of_succ_lt (hu_of hr)) rfl sc_spots_of.nd (pi_enum (by rfl) Tp.n_enumerate (pa_cons (pv 1) pa_nil)) (blkOk_by (N := ["state", "names", "body", "at", "name", "axis"]) (sc := defScope s_spots_of) (by decide +kernel)) (by decide) (fun _ _ _ _ _ => (pg_tup rfl (pgs_cons (pg_name (i := 3) sc_spots_of.nd rfl (Or.inl rfl)) (pgs_cons (pg_name (i := 4) sc_spots_of.nd rfl (Or.inl rfl)) pgs_nil)))) (fun _ _ _ _ _ => (pi_tup (pe_tup (pa_cons pe_int (pa_cons pe_int pa_nil))))) (fun _ _ _ _ _ => (pg_name (i := 5) sc_spots_of.nd rfl (Or.inl rfl))) (fun _ _ _ _ _ => (pe_tup (pa_cons (pv 4) (pa_cons (pv 5) pa_nil)))) (fun _ _ _ _ _ => (pe_op op_add (pe_op op_mulW pe_int (pv 3)) (pv 5))))))), body_P ?_ h⟩
  refine fun ds d r I => ?_
  obtain ⟨p0, p1, v0, v1, u0, u1, rfl, rfl⟩ := r
  walk_at "norm"
  refine q_asg (d := .d (.list [.int 3])) (e_is (e_lcTW (n := 1) (b := fun _ => true) (e := fun _ => .int 3) (e_iwn (iw_t (ds := [bdD (bd1 p0 p1 v0 v1)]) (p_i0 (e_var rfl))) rfl) (by decide) fun i hi => ?_) rfl) ?_
  · obtain rfl : i = 0 := by omega
    exact ⟨_, w_name List.mem_cons_self, fun I' => (t_is (t_B (p_call (R := RMoving) (ds := [.d (bdD (bd1 p0 p1 v0 v1))]) (p_cons (e_var (i := 2) rfl) a_nil) ⟨bd1 p0 p1 v0 v1, rfl, rfl⟩)) rfl), fun _ I' => p_i0 (e_var rfl)⟩
  refine p_ret (e_is (e_dx2W (f := fun _ => [([.inl 3, .inl 0], .int 0), ([.inl 3, .inl 1], .int 1)]) (ys := fun _ j => .int (j : Nat)) (e_iwn (iw_e (ds := [.int 3]) (p_cons (e_var (i := 1) rfl) a_nil)) rfl : IW K _ _ I 1 _ I) (by decide) (by decide) fun i hi => ?_) rfl)
  obtain rfl : i = 0 := by omega
  refine ⟨_, w_tup rfl (w_cons (w_name (by decide)) (w_cons (w_name (by decide)) w_nil)), fun I' => ?_, fun j k y hj => ?_⟩
  · exact iw_c (xs := fun j => PyData.int (j : Nat)) (iw_t (ds := [.int 0, .int 1]) (p_tup2 (p_cons e_int (p_cons e_int a_nil)))) fun i hi => by
      have : i = 0 ∨ i = 1 := by simp at hi; omega
      rcases this with rfl | rfl <;> rfl
  · match j, hj with
    | 0, hj =>
      obtain ⟨rfl, rfl⟩ : k = [.inl 3, .inl 0] ∧ y = .int 0 := by simpa using (Option.some.inj hj).symm
      exact ⟨_, w_name List.mem_cons_self, fun I' => p_tup2 (x := .int 3) (y := .int 0) (p_cons (e_var rfl) (p_cons (e_var rfl) a_nil)), fun I' => e_is (p_add (i := 2 * 0) (j := 0) (p_mul (i := 2) (j := 0) e_int (e_var rfl) (mulW (m := 3) (n := 3) (by decide) (by decide) (by decide))) (e_var rfl)) rfl⟩
    | 1, hj =>
      obtain ⟨rfl, rfl⟩ : k = [.inl 3, .inl 1] ∧ y = .int 1 := by simpa using (Option.some.inj hj).symm
      exact ⟨_, w_name List.mem_cons_self, fun I' => p_tup2 (x := .int 3) (y := .int 1) (p_cons (e_var rfl) (p_cons (e_var rfl) a_nil)), fun I' => e_is (p_add (i := 2 * 0) (j := 1) (p_mul (i := 2) (j := 0) e_int (e_var rfl) (mulW (m := 3) (n := 3) (by decide) (by decide) (by decide))) (e_var rfl)) rfl⟩
    | j + 2, hj => cases hj
theorem fok_law_signed (Tp : Top K mg base) : FnOk P w K mg base CX0 2 Tp.f_law_signed Tp.d_law_signed ["d", "most"] (spW K RSigned) := by
  have G_law_take := fok_law_take (P := P) (w := w) (base := base) Tp
  refine Tp.F_law_signed.ok sc_law_signed (fun vs H Q E h => len_W (fun _ _ _ _ ⟨_, e, _⟩ => by rw [e]; rfl) h) (fun cdv A outer s H vs Q E hr h => ?_)
  refine ⟨_, (pss_one (ps_ret (pe_op op_sub (pe_call G_law_take (hr.mono (by decide)) (by rfl) Tp.g_law_take Tp.F_law_take.kp Tp.b_law_take .nil pass0 (pa_cons (pv 0) (pa_cons (pe_op op_add (pe_op op_mulW pe_int (pv 1)) pe_int) pa_nil))) (pv 1)))), body_W ?_ h⟩
  refine fun ds C d C' r p J hf => ?_
  obtain ⟨m, rfl, ok, hm, hz, rfl, rfl⟩ := r
  walk_at "norm"
  refine s_ret (e_sub (e_draw (R := RTake) (ds := [.i (2 * m + 1)]) (C := C) (p_cons (e_var rfl) (p_cons (p_add (p_mul e_int (e_var rfl) (mulW (m := 2) (n := 8000) (by decide) hz (by decide))) e_int) a_nil)) ⟨_, rfl, ok, by omega, ?_, rfl, rfl⟩ hf) (e_var rfl))
  exact sz_le (n := 8500) (sz_add (m := 8002) (sz_mul (m := 2) (n := 8000) (by decide) hz) (Nat.lt_of_lt_of_le (show (1 : Int).natAbs < 2 ^ 1 by decide) (Nat.pow_le_pow_right (by decide) (by decide)))) (by decide)
theorem fok_law_f (Tp : Top K mg base) : FnOk P w K mg base CX0 2 Tp.f_law_f Tp.d_law_f ["a", "b"] (spP K RF) := by
  have G_law_gcd := fok_law_gcd (P := P) (w := w) (base := base) Tp
  refine Tp.F_law_f.ok sc_law_f (fun vs H Q E h => len_P (fun _ _ ⟨_, _, e, _⟩ => by rw [e]; rfl) h) (fun cdv A outer s H vs Q E hr h => ?_)
  refine ⟨_, (pss_cons (ps_if (pt_cmpR op_lt (pv 1) pe_int (nomark _)) (pss_cons (ps_set (i := 0) sc_law_f.nd rfl (.inl rfl) (pe_op op_sub pe_int (pv 0)))
      (pss_one (ps_set (i := 1) sc_law_f.nd rfl (.inl rfl) (pe_op op_sub pe_int (pv 1))))) pss_nil)
      (pss_cons (ps_set (i := 2) sc_law_f.nd rfl (.inl rfl) (pe_call G_law_gcd (hr.mono (by decide)) (by rfl) Tp.g_law_gcd Tp.F_law_gcd.kp Tp.b_law_gcd .nil pass0 (pa_cons (pe_callB call_abs (by rfl) Tp.n_abs (by decide +kernel) (pa_cons (pv 0) pa_nil)) (pa_cons (pv 1) pa_nil))))
      (pss_one (ps_ret (pe_tup (pa_cons (pe_op op_fdivW (pv 0) (pv 2)) (pa_cons (pe_op op_fdivW (pv 1) (pv 2)) pa_nil))))))), body_P ?_ h⟩
  refine fun ds d r I => ?_
  obtain ⟨x, y, rfl, h0, hx, hy, rfl⟩ := r
  walk_at "norm"
  refine s_seq (ρ1 := [some (.i (if y < 0 then 0 - x else x)), some (.i (if y < 0 then 0 - y else y)), none]) (J := I) ?_ ?_
  · by_cases h : y < 0
    · rw [if_pos h, if_pos h]
      exact q_ifT (p_test (p_lt (i := y) (j := 0) (by walk_at "ev") (by walk_at "ev"))) (decide_eq_true h) (q_asg (d := .i (0 - x)) (by walk_at "ev") (p_asg (d := .i (0 - y)) (by walk_at "ev")))
    · rw [if_neg h, if_neg h]
      exact q_ifF (p_test (p_lt (i := y) (j := 0) (by walk_at "ev") (by walk_at "ev"))) (decide_eq_false h) s_next
  · have e : lf x y = nf (if y < 0 then 0 - x else x) (if y < 0 then 0 - y else y) := by
      unfold lf
      split <;> rfl
    rw [e]
    have h0' : 0 < (if y < 0 then 0 - y else y) := by split <;> omega
    have hx' : (if y < 0 then 0 - x else x).natAbs < 2 ^ 8500 := by
      split
      · rw [Int.zero_sub, Int.natAbs_neg]; exact hx
      · exact hx
    have hy' : (if y < 0 then 0 - y else y).natAbs < 2 ^ 8500 := by
      split
      · rw [Int.zero_sub, Int.natAbs_neg]; exact hy
      · exact hy
    generalize (if y < 0 then 0 - y else y) = v at *
    generalize (if y < 0 then 0 - x else x) = u at *
    have g0 : Int.gcd u v ≠ 0 := Int.gcd_ne_zero_right (by omega)
    have hg : (0 : Int) < (Int.gcd u v : Nat) := by omega
    have zg : ((Int.gcd u v : Nat) : Int).natAbs < 2 ^ 8500 := sz_gcd hy' (by omega)
    refine q_asg (d := .i (Int.gcd u v : Nat)) (e_is (p_call (R := RGcd) (ds := [.i (u.natAbs : Nat), .i v]) (by walk_at "ev") ⟨_, _, rfl, by omega, by omega, rfl⟩) (by rw [gcd_abs])) ?_
    refine p_ret (p_frac (x := u / (Int.gcd u v : Nat)) (y := v / (Int.gcd u v : Nat)) ?_ rfl)
    walk_at "ev"
    · exact divW hg zg (by decide)
    · exact divW hg zg (by decide)
theorem fok_flight (Tp : Top K mg base) : FnOk P w K mg base (L2.CX P w) 3 Tp.f_flight Tp.d_flight ["place", "speed", "pull", "n"] (spX K (RFly Tp.c_TickError)) := by
  have G_scale := fok_scale (P := P) (w := w) (base := base) Tp
  have G_add := fok_add (P := P) (w := w) (base := base) Tp
  refine Tp.F_flight.okX sc_flight (fun vs H Q E h => len_X (fun _ _ ⟨_, _, _, _, _, _, _, e, _⟩ => by rw [e]; rfl) h) (fun cdv A outer s H vs Q E hr h => ?_)
  refine ⟨_, (pss_cons (ps_if (PW.pt (pw_or (pt_cmpR op_lt (pv 3) pe_int (nomark _)) (pw_or1 (pt_cmpR op_gt (pv 3) (pe_glob (v := .int 1000000) (by rfl) Tp.gk_FLIGHT_LIMIT ⟨_, rfl⟩) (nomark _))))) (pss_one (ps_raise rfl (takes_of rfl rfl rfl rfl) (pmk_own PySem.F.excBase_ValueError Tp.xc_TickError Tp.gc_TickError Tp.kc_TickError (raises_own Tp.bc_TickError Tp.tc_TickError) rfl))) pss_nil)
      (pss_cons (ps_set (i := 4) sc_flight.nd rfl (.inl rfl) (pe_call G_scale (hr.mono (by decide)) (by rfl) Tp.g_scale Tp.F_scale.kp Tp.b_scale .nil pass0 (pa_cons (pv 2) (pa_cons (pe_tup (pa_cons (pv 3) (pa_cons pe_int pa_nil))) pa_nil))))
      (pss_cons (ps_set (i := 5) sc_flight.nd rfl (.inl rfl) (pe_call G_add (hr.mono (by decide)) (by rfl) Tp.g_add Tp.F_add.kp Tp.b_add .nil pass0 (pa_cons (pe_call G_scale (hr.mono (by decide)) (by rfl) Tp.g_scale Tp.F_scale.kp Tp.b_scale .nil pass0 (pa_cons (pv 1) (pa_cons (pe_tup (pa_cons (pv 3) (pa_cons pe_int pa_nil))) pa_nil))) (pa_cons (pe_call G_scale (hr.mono (by decide)) (by rfl) Tp.g_scale Tp.F_scale.kp Tp.b_scale .nil pass0 (pa_cons (pv 2) (pa_cons (pe_tup (pa_cons (pe_op op_fdivW (pe_op op_mulW (pv 3) (pe_op op_add (pv 3) pe_int)) pe_int) (pa_cons pe_int pa_nil))) pa_nil))) pa_nil))))
      (pss_one (ps_ret (pe_tup (pa_cons (pe_call G_add (hr.mono (by decide)) (by rfl) Tp.g_add Tp.F_add.kp Tp.b_add .nil pass0 (pa_cons (pv 0) (pa_cons (pv 5) pa_nil))) (pa_cons (pe_call G_add (hr.mono (by decide)) (by rfl) Tp.g_add Tp.F_add.kp Tp.b_add .nil pass0 (pa_cons (pv 1) (pa_cons (pv 4) pa_nil))) pa_nil)))))))), body_X ?_ h⟩
  refine fun ds r hr I hx => ?_
  obtain ⟨p0, p1, s0, s1, u0, u1, n, rfl, hp0, hp1, hs0, hs1, hu0, hu1, hr⟩ := hr
  walk_at "norm"
  rcases hr with ⟨n0, n1, rfl⟩ | ⟨hn, rfl⟩
  rotate_left
  · refine s_err (q_ifT (t_or (p_test (p_lt (i := n) (j := 0) (e_var (i := 3) rfl) e_int)) fun _ => p_test (p_gt (i := n) (j := 1000000) (e_var (i := 3) rfl) e_int)) ?_ (s_raise' fun G H σ D gh io => hx _ rfl G H io))
    rcases hn with hn | hn
    · rw [decide_eq_true hn]; rfl
    · rw [decide_eq_true hn, Bool.or_true]
  refine q_skip (t_or (p_test (p_lt (i := n) (j := 0) (e_var (i := 3) rfl) e_int)) fun _ => p_test (p_gt (i := n) (j := 1000000) (e_var (i := 3) rfl) e_int)) (by rw [decide_eq_false (show ¬ n < 0 by omega), decide_eq_false (show ¬ 1000000 < n by omega)]; rfl) ?_
  have on : PL.Ok 24 ((n, 1) : F) := ok_whole n0 (by omega) (by decide)
  have z5 : (n * (n + 1)).natAbs < 2 ^ 48 := by
    rw [Int.natAbs_mul, show (48 : Nat) = 24 + 24 from rfl, Nat.pow_add]
    exact Nat.mul_lt_mul'' (by omega) (by omega)
  have m0 : 0 ≤ n * (n + 1) := Int.mul_nonneg n0 (by omega)
  have oh : PL.Ok 48 ((n * (n + 1) / 2, 1) : F) := ok_whole (by omega) (by omega) (by decide)
  have en : PL.E K _ _ I (.d (fr (n, 1))) I := p_frac (x := n) (y := 1) (p_cons (e_var (i := 3) (ρ := [some (.d (vcd p0 p1)), some (.d (vcd s0 s1)), some (.d (vcd u0 u1)), some (.i n), none, none]) rfl) (p_cons e_int a_nil)) rfl
  refine q_asg (d := .t [fr (timesM u0 (n, 1)), fr (timesM u1 (n, 1))]) (p_call (R := RScale) (ds := [.t [fr u0, fr u1], .d (fr (n, 1))]) (p_cons (e_var (i := 2) rfl) (p_cons en a_nil)) ⟨u0, u1, (n, 1), rfl, hu0.mono (by decide), hu1.mono (by decide), on.mono (by decide), rfl⟩) ?_
  have w0 := ok_times hs0 on
  have w1 := ok_times hs1 on
  have y0 := ok_times hu0 oh
  have y1 := ok_times hu1 oh
  have g0 := ok_times hu0 on
  have g1 := ok_times hu1 on
  have en2 : PL.E K _ _ I (.d (fr (n, 1))) I := p_frac (x := n) (y := 1) (p_cons (e_var (i := 3) (ρ := [some (.d (vcd p0 p1)), some (.d (vcd s0 s1)), some (.d (vcd u0 u1)), some (.i n), some (.t [fr (timesM u0 (n, 1)), fr (timesM u1 (n, 1))]), none]) rfl) (p_cons e_int a_nil)) rfl
  have eh : PL.E K _ _ I (.d (fr (n * (n + 1) / 2, 1))) I := p_frac (x := n * (n + 1) / 2) (y := 1) (p_cons (p_div (p_mul (e_var (i := 3) (ρ := [some (.d (vcd p0 p1)), some (.d (vcd s0 s1)), some (.d (vcd u0 u1)), some (.i n), some (.t [fr (timesM u0 (n, 1)), fr (timesM u1 (n, 1))]), none]) rfl) (p_add (e_var (i := 3) rfl) e_int) (mulW (m := 24) (n := 24) (by omega) (by omega) (by decide))) e_int (divW (n := 3) (by decide) (by decide) (by decide))) (p_cons e_int a_nil)) rfl
  refine q_asg (d := .t [fr (plusM (timesM s0 (n, 1)) (timesM u0 (n * (n + 1) / 2, 1))), fr (plusM (timesM s1 (n, 1)) (timesM u1 (n * (n + 1) / 2, 1)))]) (p_call (R := RVec2 plusM) (ds := [.t [fr (timesM s0 (n, 1)), fr (timesM s1 (n, 1))], .t [fr (timesM u0 (n * (n + 1) / 2, 1)), fr (timesM u1 (n * (n + 1) / 2, 1))]]) (p_cons (p_call (R := RScale) (ds := [.t [fr s0, fr s1], .d (fr (n, 1))]) (p_cons (e_var (i := 1) rfl) (p_cons en2 a_nil)) ⟨s0, s1, (n, 1), rfl, hs0.mono (by decide), hs1.mono (by decide), on.mono (by decide), rfl⟩) (p_cons (p_call (R := RScale) (ds := [.t [fr u0, fr u1], .d (fr ((n * (n + 1) / 2), 1))]) (p_cons (e_var (i := 2) rfl) (p_cons eh a_nil)) ⟨u0, u1, ((n * (n + 1) / 2), 1), rfl, hu0.mono (by decide), hu1.mono (by decide), oh.mono (by decide), rfl⟩) a_nil)) (RVec2.mk w0 w1 y0 y1)) ?_
  have v0 := ok_plus w0 y0
  have v1 := ok_plus w1 y1
  exact p_ret (p_tup (ds := [.t [fr (flyP p0 s0 u0 n), fr (flyP p1 s1 u1 n)], .t [fr (flyV s0 u0 n), fr (flyV s1 u1 n)]]) (p_cons (p_call (R := RVec2 plusM) (ds := [.t [fr p0, fr p1], .t [fr (plusM (timesM s0 (n, 1)) (timesM u0 (n * (n + 1) / 2, 1))), fr (plusM (timesM s1 (n, 1)) (timesM u1 (n * (n + 1) / 2, 1)))]]) (p_cons (e_var rfl) (p_cons (e_var rfl) a_nil)) (RVec2.mk hp0 hp1 v0 v1)) (p_cons (p_call (R := RVec2 plusM) (ds := [.t [fr s0, fr s1], .t [fr (timesM u0 (n, 1)), fr (timesM u1 (n, 1))]]) (p_cons (e_var rfl) (p_cons (e_var rfl) a_nil)) (RVec2.mk hs0 hs1 g0 g1)) a_nil)) (.cons (.cons .nil)) (show 2 ≤ 100000 by decide))
theorem fok_crossing_tick (Tp : Top K mg base) : FnOk P w K mg base (L2.CX P w) 3 Tp.f_crossing_tick Tp.d_crossing_tick ["place", "speed", "pull", "line", "most"] (spX K (RCrossQ Tp.c_TickError)) := by
  have G_whole_numbers := fok_whole_numbers (P := P) (w := w) (base := base) Tp
  have G_last_fall := fok_last_fall (P := P) (w := w) (base := base) Tp
  have G_first_below := fok_first_below (P := P) (w := w) (base := base) Tp
  have G_height_after := fok_height_after (P := P) (w := w) (base := base) Tp
  have G_minus := fok_minus (P := P) (w := w) (base := base) Tp
  refine Tp.F_crossing_tick.okX sc_crossing_tick (fun vs H Q E h => len_X (fun _ _ ⟨_, _, _, _, _, e, _⟩ => by rw [e]; rfl) h) (fun cdv A outer s H vs Q E hr h => ?_)
  refine ⟨_, (pss_cons (ps_if (PW.pt (pw_or (pt_cmpR op_lt (pv 4) pe_int (nomark _)) (pw_or1 (pt_cmpR op_gt (pv 4) (pe_glob (v := .int 1000000) (by rfl) Tp.gk_FLIGHT_LIMIT ⟨_, rfl⟩) (nomark _))))) (pss_one (ps_raise rfl (takes_of rfl rfl rfl rfl) (pmk_own PySem.F.excBase_ValueError Tp.xc_TickError Tp.gc_TickError Tp.kc_TickError (raises_own Tp.bc_TickError Tp.tc_TickError) rfl))) pss_nil)
      (pss_cons (ps_asg (pe_call G_whole_numbers (hr.mono (by decide)) (by rfl) Tp.g_whole_numbers Tp.F_whole_numbers.kp Tp.b_whole_numbers .nil pass0 (pa_cons (pe_lst (pa_cons (pe_call G_minus (hr.mono (by decide)) (by rfl) Tp.g_minus Tp.F_minus.kp Tp.b_minus .nil pass0 (pa_cons (pv 0) (pa_cons (pv 3) pa_nil))) (pa_cons (pv 1) (pa_cons (pv 2) pa_nil)))) pa_nil)) (pg_lst rfl (pgs_cons (pg_name (i := 5) sc_crossing_tick.nd rfl (.inl rfl)) (pgs_cons (pg_name (i := 1) sc_crossing_tick.nd rfl (.inl rfl)) (pgs_cons (pg_name (i := 2) sc_crossing_tick.nd rfl (.inl rfl)) pgs_nil)))))
      (pss_cons (ps_if (pt_cmpR op_lt (pv 5) pe_int (nomark _)) (pss_one (ps_par3 (i := 5) (j := 1) (l := 2) rfl sc_crossing_tick.nd rfl rfl rfl (by decide) (by decide) (by decide) rfl rfl rfl (pa_cons (pe_un un_neg (pv 5)) (pa_cons (pe_un un_neg (pv 1)) (pa_cons (pe_un un_neg (pv 2)) pa_nil))) (by rfl))) pss_nil)
      (pss_cons (ps_if (pt_cmpR op_eq (pv 5) pe_int (nomark _)) (pss_one (ps_ret pe_int)) pss_nil)
      (pss_cons (ps_set (i := 6) sc_crossing_tick.nd rfl (.inl rfl) (pe_call G_last_fall (hr.mono (by decide)) (by rfl) Tp.g_last_fall Tp.F_last_fall.kp Tp.b_last_fall .nil pass0 (pa_cons (pv 1) (pa_cons (pv 2) (pa_cons (pv 4) pa_nil)))))
      (pss_cons (ps_if (pt_cmpR op_gt (pe_call G_height_after (hr.mono (by decide)) (by rfl) Tp.g_height_after Tp.F_height_after.kp Tp.b_height_after .nil pass0 (pa_cons (pv 5) (pa_cons (pv 1) (pa_cons (pv 2) (pa_cons (pv 6) pa_nil))))) pe_int (nomark _)) (pss_one (ps_ret pe_non)) pss_nil)
      (pss_one (ps_ret (pe_call G_first_below (hr.mono (by decide)) (by rfl) Tp.g_first_below Tp.F_first_below.kp Tp.b_first_below .nil pass0 (pa_cons (pv 5) (pa_cons (pv 1) (pa_cons (pv 2) (pa_cons (pv 6) pa_nil))))))))))))), body_X ?_ h⟩
  refine fun ds r hr I hx => ?_
  obtain ⟨p, s, w, l, n, rfl, hp, h1, h2, hl, hr⟩ := hr
  walk_at "norm"
  rcases hr with ⟨n0, n1, rfl⟩ | ⟨hn, rfl⟩
  rotate_left
  · refine s_err (q_ifT (t_or (p_test (p_lt (i := n) (j := 1) (e_var (i := 4) rfl) e_int)) fun _ => p_test (p_gt (i := n) (j := 1000000) (e_var (i := 4) rfl) e_int)) ?_ (s_raise' fun G H σ D gh io => hx _ rfl G H io))
    rcases hn with hn | hn
    · rw [decide_eq_true hn]; rfl
    · rw [decide_eq_true hn, Bool.or_true]
  refine q_skip (t_or (p_test (p_lt (i := n) (j := 1) (e_var (i := 4) rfl) e_int)) fun _ => p_test (p_gt (i := n) (j := 1000000) (e_var (i := 4) rfl) e_int)) (by rw [decide_eq_false (show ¬ n < 1 by omega), decide_eq_false (show ¬ 1000000 < n by omega)]; rfl) ?_
  have hs : ∀ t ∈ [minusM p l, s, w], PL.Ok 110 t := fun t ht => by
    rcases List.mem_cons.mp ht with rfl | ht
    · exact (ok_minus hp hl).mono (by decide)
    rcases List.mem_cons.mp ht with rfl | ht
    · exact h1
    · rw [List.mem_singleton.mp ht]
      exact h2
  obtain ⟨m, rfl⟩ : ∃ m : Nat, n = (m : Nat) := ⟨n.toNat, by omega⟩
  rw [Int.toNat_natCast]
  have z0 := num_sz hs (show 3 ≤ 4 by decide) (t := minusM p l) (by simp)
  have z1 := num_sz hs (show 3 ≤ 4 by decide) (t := s) (by simp)
  have z2 := num_sz hs (show 3 ≤ 4 by decide) (t := w) (by simp)
  refine s_seq (s_asgG (x := .list [.int ((minusM p l).1 * (((denM [minusM p l, s, w] : Nat) : Int) / (minusM p l).2)), .int (s.1 * (((denM [minusM p l, s, w] : Nat) : Int) / s.2)), .int (w.1 * (((denM [minusM p l, s, w] : Nat) : Int) / w.2))]) (p_call (R := RWholeN) (ds := [.d (.list [fr (minusM p l), fr s, fr w])]) (p_cons (e_lst (ds := [.d (fr (minusM p l)), .d (fr s), .d (fr w)]) (p_cons (p_call (R := RPlus minusM) (ds := [.d (fr p), .d (fr l)]) (p_cons (e_var rfl) (p_cons (e_var rfl) a_nil)) (RPlus.mk hp hl)) (p_cons (e_var rfl) (p_cons (e_var rfl) a_nil))) (.cons (.cons (.cons .nil))) (show 3 ≤ 100000 by decide)) a_nil) ⟨[minusM p l, s, w], rfl, hs, show 3 ≤ 60 by decide, rfl⟩) (g_lst rfl (g_cons g_name (g_cons g_name (g_cons g_name g_nil))))) ?_
  unfold crossQ
  generalize (minusM p l).1 * (((denM [minusM p l, s, w] : Nat) : Int) / (minusM p l).2) = a at *
  generalize s.1 * (((denM [minusM p l, s, w] : Nat) : Int) / s.2) = v at *
  generalize w.1 * (((denM [minusM p l, s, w] : Nat) : Int) / w.2) = u at *
  have hW : W3 a v u := ⟨z0, z1, z2⟩
  obtain ⟨a', v', u', hW', a0, ee, cs⟩ : ∃ a' v' u' : Int, W3 a' v' u' ∧ 0 ≤ a' ∧ crossT a v u m = (if a' = 0 then some 1 else crossF a' v' u' m) ∧ ((a < 0 ∧ a' = -a ∧ v' = -v ∧ u' = -u) ∨ (¬ a < 0 ∧ a' = a ∧ v' = v ∧ u' = u)) := by
    unfold crossT
    by_cases c : a < 0
    · exact ⟨-a, -v, -u, hW.neg, by omega, by rw [if_neg (show ¬ a = 0 by omega), if_neg (show ¬ 0 < a by omega), if_neg (show ¬ -a = 0 by omega)], .inl ⟨c, rfl, rfl, rfl⟩⟩
    · refine ⟨a, v, u, hW, by omega, ?_, .inr ⟨c, rfl, rfl, rfl⟩⟩
      by_cases z : a = 0
      · rw [if_pos z, if_pos z]
      · rw [if_neg z, if_neg z, if_pos (show 0 < a by omega)]
  rw [ee]
  refine s_seq (ρ1 := [some (.d (fr p)), some (.i v'), some (.i u'), some (.d (fr l)), some (.i (m : Nat)), some (.i a'), none]) (J := I) ?_ ?_
  · rcases cs with ⟨c, rfl, rfl, rfl⟩ | ⟨c, rfl, rfl, rfl⟩
    · exact q_ifT (p_test (p_lt (i := a) (j := 0) (by walk_at "ev") (by walk_at "ev"))) (decide_eq_true c) (s_par3 (p_cons (p_neg (e_var rfl)) (p_cons (p_neg (e_var rfl)) (p_cons (p_neg (e_var rfl)) a_nil))))
    · exact q_ifF (p_test (p_lt (i := a') (j := 0) (by walk_at "ev") (by walk_at "ev"))) (decide_eq_false c) s_next
  by_cases c0 : a' = 0
  · rw [if_pos c0]
    exact s_stop (q_ifT (p_test (p_eqI (i := a') (j := 0) (by walk_at "ev") (by walk_at "ev"))) (decide_eq_true c0) (p_ret e_int))
  rw [if_neg c0]
  refine q_skip (p_test (p_eqI (i := a') (j := 0) (by walk_at "ev") (by walk_at "ev"))) (decide_eq_false c0) ?_
  refine q_asg (d := .i (lastM v' u' (m : Nat))) (p_call (R := RLast) (ds := [.i v', .i u', .i (m : Nat)]) (by walk_at "ev") ⟨v', u', _, rfl, hW'.u, rfl⟩) ?_
  have l0 := last_nn (v := v') (u := u') (m := (m : Nat)) (by omega)
  have l1 := last_le (v := v') (u := u') (m := (m : Nat))
  have go := cross_go (a := a') (v := v') (u := u') (m := m) (by omega) (by omega)
  rcases go with ⟨g, e⟩ | ⟨g, g1, r, e, r1, r2, r0, rp⟩
  · rw [e]
    exact s_stop (q_ifT (p_test (p_gt (i := hgt a' v' u' (lastM v' u' (m : Nat))) (j := 0) (p_call (T := noT) (R := RHgt) (ds := [.i a', .i v', .i u', .i (lastM v' u' (m : Nat))]) (p_cons (e_var (i := 5) rfl) (p_cons (e_var (i := 1) rfl) (p_cons (e_var (i := 2) rfl) (p_cons (e_var (i := 6) rfl) a_nil)))) ⟨a', v', u', _, rfl, hW', l0, by omega, rfl⟩) e_int)) (decide_eq_true g) (p_ret e_non))
  · rw [e]
    refine q_skip (p_test (p_gt (i := hgt a' v' u' (lastM v' u' (m : Nat))) (j := 0) (p_call (T := noT) (R := RHgt) (ds := [.i a', .i v', .i u', .i (lastM v' u' (m : Nat))]) (p_cons (e_var (i := 5) rfl) (p_cons (e_var (i := 1) rfl) (p_cons (e_var (i := 2) rfl) (p_cons (e_var (i := 6) rfl) a_nil)))) ⟨a', v', u', _, rfl, hW', l0, by omega, rfl⟩) e_int)) (decide_eq_false (by omega)) ?_
    exact p_ret (p_call (R := RFirstB) (ds := [.i a', .i v', .i u', .i (lastM v' u' (m : Nat))]) (by walk_at "ev") ⟨a', v', u', _, r, rfl, hW', g1, by omega, sgn_last (by omega), g, r1, r2, r0, rp, rfl⟩)
theorem fok_highest_tick (Tp : Top K mg base) : FnOk P w K mg base CX0 3 Tp.f_highest_tick Tp.d_highest_tick ["speed", "pull"] (spP K RTop) := by
  have G_whole_numbers := fok_whole_numbers (P := P) (w := w) (base := base) Tp
  have G_ticks_before_turn := fok_ticks_before_turn (P := P) (w := w) (base := base) Tp
  refine Tp.F_highest_tick.ok sc_highest_tick (fun vs H Q E h => len_P (fun _ _ ⟨_, _, e, _⟩ => by rw [e]; rfl) h) (fun cdv A outer s H vs Q E hr h => ?_)
  refine ⟨_, (pss_cons (ps_asg (pe_call G_whole_numbers (hr.mono (by decide)) (by rfl) Tp.g_whole_numbers Tp.F_whole_numbers.kp Tp.b_whole_numbers .nil pass0 (pa_cons (pe_lst (pa_cons (pv 0) (pa_cons (pv 1) pa_nil))) pa_nil)) (pg_lst rfl (pgs_cons (pg_name (i := 0) sc_highest_tick.nd rfl (.inl rfl)) (pgs_cons (pg_name (i := 1) sc_highest_tick.nd rfl (.inl rfl)) pgs_nil))))
      (pss_cons (ps_if (pt_cmpR op_lt (pv 1) pe_int (nomark _)) (pss_one (ps_ret (pe_call G_ticks_before_turn (hr.mono (by decide)) (by rfl) Tp.g_ticks_before_turn Tp.F_ticks_before_turn.kp Tp.b_ticks_before_turn .nil pass0 (pa_cons (pv 0) (pa_cons (pe_un un_neg (pv 1)) pa_nil))))) pss_nil)
      (pss_cons (ps_if (PW.pt (pw_or (pt_cmpR op_gt (pv 1) pe_int (nomark _)) (pw_or1 (pt_cmpR op_gt (pv 0) pe_int (nomark _))))) (pss_one (ps_ret pe_non)) pss_nil)
      (pss_one (ps_ret pe_int))))), body_P ?_ h⟩
  refine fun ds d r I => ?_
  obtain ⟨s, w, rfl, h1, h2, rfl⟩ := r
  walk_at "norm"
  have hs : ∀ t ∈ [s, w], PL.Ok 110 t := fun t ht => by
    rcases List.mem_cons.mp ht with rfl | ht
    · exact h1
    · rw [List.mem_singleton.mp ht]
      exact h2
  have z2 := num_sz hs (show 2 ≤ 4 by decide) (t := w) (by simp)
  refine s_seq (s_asgG (x := .list [.int (s.1 * (((denM [s, w] : Nat) : Int) / s.2)), .int (w.1 * (((denM [s, w] : Nat) : Int) / w.2))]) (p_call (R := RWholeN) (ds := [.d (.list [fr s, fr w])]) (p_cons (e_lst (p_cons (e_var rfl) (p_cons (e_var rfl) a_nil)) (.cons (.cons .nil)) (show 2 ≤ 100000 by decide)) a_nil) ⟨[s, w], rfl, hs, show 2 ≤ 60 by decide, rfl⟩) (g_lst rfl (g_cons g_name (g_cons g_name g_nil)))) ?_
  generalize s.1 * (((denM [s, w] : Nat) : Int) / s.2) = v at *
  generalize w.1 * (((denM [s, w] : Nat) : Int) / w.2) = u at *
  unfold topF
  by_cases c : u < 0
  · rw [if_pos c]
    exact s_stop (q_ifT (p_test (p_lt (i := u) (j := 0) (by walk_at "ev") (by walk_at "ev"))) (decide_eq_true c) (p_ret (p_call (R := RTurn) (ds := [.i v, .i (-u)]) (p_cons (e_var rfl) (p_cons (p_neg (e_var rfl)) a_nil)) ⟨v, -u, rfl, by omega, by rw [Int.natAbs_neg]; exact z2, rfl⟩)))
  · rw [if_neg c]
    refine q_skip (p_test (p_lt (i := u) (j := 0) (by walk_at "ev") (by walk_at "ev"))) (decide_eq_false c) ?_
    have tt : PL.T K _ [some (.i v), some (.i u)] I (decide (0 < u) || decide (0 < v)) I := t_or (p_test (p_gt (i := u) (j := 0) (e_var (i := 1) rfl) e_int)) fun _ => p_test (p_gt (i := v) (j := 0) (e_var (i := 0) rfl) e_int)
    by_cases k : 0 < u ∨ 0 < v
    · rw [if_pos k]
      refine s_stop (q_ifT tt ?_ (p_ret e_non))
      rcases k with k | k
      · rw [decide_eq_true k]; rfl
      · rw [decide_eq_true k, Bool.or_true]
    · rw [if_neg k]
      exact q_skip tt (by rw [decide_eq_false (fun z => k (.inl z)), decide_eq_false (fun z => k (.inr z))]; rfl) (p_ret e_int)
theorem fok_check_task (Tp : Top K mg base) : FnOk P w K mg base (L2.CX P w) 3 Tp.f_check_task Tp.d_check_task ["weights", "wishes", "lines"] (spXT K Tp.tabs RTask0) := by
  have G_check_parts := fok_check_parts (P := P) (w := w) (base := base) Tp
  refine Tp.F_check_task.okC sc_check_task (fun vs H Q E h => len_X (fun _ _ ⟨_, _, e, _⟩ => by rw [e]; rfl) h) (fun A outer s H vs Q E hr h => ?_)
  refine ⟨_, (pss_cons (ps_if (PW.pt (pw_or (pt_cmpR op_gt (pe_callB (call_max2 (by rfl)) (by rfl) Tp.n_max (by decide +kernel) (pa_cons (pe_callB call_len_seq (by rfl) Tp.n_len (by decide +kernel) (pa_cons (pv 0) pa_nil)) (pa_cons (pe_callB call_len_seq (by rfl) Tp.n_len (by decide +kernel) (pa_cons (pv 1) pa_nil)) pa_nil))) (pe_glob (v := .int 60) (by rfl) Tp.gk_COORDINATE_LIMIT ⟨_, rfl⟩) (nomark _)) (pw_or1 (pt_cmpR op_gt (pe_callB call_len_seq (by rfl) Tp.n_len (by decide +kernel) (pa_cons (pv 2) pa_nil)) (pe_glob (v := .int 1000) (by rfl) Tp.gk_LINE_LIMIT ⟨_, rfl⟩) (nomark _))))) (pss_one (ps_raise rfl (takes_of rfl rfl rfl rfl) (pmk_own PySem.F.excBase_ValueError Tp.xc_TooLarge Tp.gc_TooLarge Tp.kc_TooLarge (raises_own Tp.bc_TooLarge Tp.tc_TooLarge) rfl))) pss_nil)
      (pss_cons (ps_if (pt_cmpR op_ne (pe_callB call_len_seq (by rfl) Tp.n_len (by decide +kernel) (pa_cons (pv 0) pa_nil)) (pe_callB call_len_seq (by rfl) Tp.n_len (by decide +kernel) (pa_cons (pv 1) pa_nil)) (nomark _)) (pss_one (ps_raise rfl (takes_of rfl rfl rfl rfl) (pmk_own PySem.F.excBase_ValueError Tp.xc_RowError Tp.gc_RowError Tp.kc_RowError (raises_own Tp.bc_RowError Tp.tc_RowError) rfl))) pss_nil)
      (pss_cons (ps_if (pt_val (GX.pe_any (own := [("weight", 5)]) hr (by rfl) Tp.n_any Tp.tb_check_task rfl (blkOk_by (N := ["weights", "wishes", "lines", "parts", "_", "weight"]) (sc := defScope s_check_task) (by decide +kernel)) ⟨rfl, by decide +kernel, rfl⟩ sc_check_task.nd (pi_tup (pv 0)) (fun _ _ _ _ _ _ _ => (pg_name (i := 5) sc_check_task.nd rfl (Or.inl rfl))) (fun _ _ _ _ _ _ hr => pts_nil) (fun _ _ _ _ _ _ hr => (pe_cmpR op_lt (pv 5) pe_int (nomark _))) (fun _ => rfl))) (pss_one (ps_raise rfl (takes_of rfl rfl rfl rfl) (pmk_own PySem.F.excBase_ValueError Tp.xc_RowError Tp.gc_RowError Tp.kc_RowError (raises_own Tp.bc_RowError Tp.tc_RowError) rfl))) pss_nil)
      (pss_one (ps_for (passes_of rfl) rfl (pi_tup (pv 2)) (pg_tup rfl (pgs_cons (pg_name (i := 3) sc_check_task.nd rfl (.inl rfl)) (pgs_cons (pg_name (i := 4) sc_check_task.nd rfl (.inl rfl)) pgs_nil))) (pss_one (ps_expr (pe_call G_check_parts (hr.mono (by decide)) (by rfl) Tp.g_check_parts Tp.F_check_parts.kp Tp.b_check_parts .nil (passes_call (takes_of rfl rfl rfl rfl) (fun _ _ _ _ z => z)) (pa_cons (pv 3) (pa_cons (pe_callB call_len_seq (by rfl) Tp.n_len (by decide +kernel) (pa_cons (pv 0) pa_nil)) pa_nil)))))))))), body_XNT ?_ h⟩
  refine fun ds r hr I hT hx => ?_
  obtain ⟨ws, pts, rfl, h, rfl⟩ := hr
  walk_at "norm"
  have l1 : (ws.map PyData.int).length = pts.length := by rw [List.length_map, h.ln]
  have l2 : (pts.map fr).length = pts.length := List.length_map ..
  have hle := h.le
  refine .inl ⟨trivial, [some (.t (ws.map PyData.int)), some (.t (pts.map fr)), some (.t []), none, none, none], ?_⟩
  refine q_skip (t_or (p_test (p_gt (i := if (((ws.map PyData.int).length : Nat) : Int) < (((pts.map fr).length : Nat) : Int) then (((pts.map fr).length : Nat) : Int) else (((ws.map PyData.int).length : Nat) : Int)) (j := 60) (e_max2 (p_cons (p_lenT (ds := ws.map PyData.int) (p_cons (e_var (i := 0) rfl) a_nil)) (p_cons (p_lenT (ds := pts.map fr) (p_cons (e_var (i := 1) rfl) a_nil)) a_nil))) e_int)) fun _ => p_test (p_gt (i := ((([] : List PyData).length : Nat) : Int)) (j := 1000) (p_lenT (ds := ([] : List PyData)) (p_cons (e_var (i := 2) rfl) a_nil)) e_int)) ?_ ?_
  · rw [l1, l2, if_neg (by omega), decide_eq_false (show ¬ (60 : Int) < (pts.length : Nat) by omega)]
    rfl
  refine q_skip (p_test (p_neI (i := (((ws.map PyData.int).length : Nat) : Int)) (j := (((pts.map fr).length : Nat) : Int)) (p_lenT (ds := ws.map PyData.int) (p_cons (e_var (i := 0) rfl) a_nil)) (p_lenT (ds := pts.map fr) (p_cons (e_var (i := 1) rfl) a_nil)))) ?_ ?_
  · rw [l1, l2, decide_eq_true rfl]
    rfl
  refine q_skip (t_B (e_genT (T' := Tp.tabs) (P := Tp.tp_check_task) (ds := ws.map PyData.int) (ks := ws.map fun n => (true, decide (n < 1))) List.mem_cons_self (e_var rfl) (by rw [List.length_map, List.length_map]) fun i x p hx hp => by
      obtain ⟨n, hn, rfl⟩ := getElem?_of_map hx
      rw [List.getElem?_map, hn] at hp
      obtain rfl := Option.some.inj hp
      exact ⟨_, w_name List.mem_cons_self, t_yes, fun _ => p_lt (i := n) (j := 1) (e_var rfl) e_int⟩)) ?_ ?_
  · rw [Bool.eq_false_iff]
    intro c
    have c : (ws.map fun n => (true, decide (n < 1))).any (fun k => k.1 && k.2) = true := c
    rw [List.any_map, List.any_eq_true] at c
    obtain ⟨n, hn, c⟩ := c
    have h1 := h.ws n hn
    have c : (true && decide (n < 1)) = true := c
    rw [Bool.true_and] at c
    have := of_decide_eq_true c
    omega
  exact s_for0 (iw_t (ds := []) (e_var rfl)) rfl
theorem fok_Search_init (Tp : Top K mg base) : FnOk P w K mg base CX0 3 Tp.f_Search_init Tp.d_Search_init ["self", "weights", "wishes", "lines"] (spI K noT Tp.C_Search RInit0) := by
  have G_scale_of := fok_scale_of (P := P) (w := w) (base := base) Tp
  have G_whole_factors := fok_whole_factors (P := P) (w := w) (base := base) Tp
  refine Tp.F_Search_init.ok sc_Search_init (fun vs H Q E h => len_I (n := 3) (fun _ _ ⟨_, _, e, _⟩ => by rw [e]; rfl) h) (fun cdv A outer s H vs Q E hr h => ?_)
  refine ⟨_, (pss_cons (ps_fld (pv 0) (pe_callTy call_list_of (by rfl) Tp.n_list (by decide +kernel) (pa_cons (pv 2) pa_nil)) rfl)
      (pss_cons (ps_fld (pv 0) (pe_lc (own := [("parts", 4), ("_", 5)]) (g := (gTup K 2 (gCons (gName 4) (gCons (gName 5) gNil)))) (tt := tYes) rfl sc_Search_init.nd (pi_tup (pv 3)) (blkOk_by (N := ["self", "weights", "wishes", "lines", "parts", "_", "scale", "bound"]) (sc := defScope s_Search_init) (by decide +kernel)) (fun _ _ _ _ _ => (pg_tup rfl (pgs_cons (pg_name (i := 4) sc_Search_init.nd rfl (Or.inl rfl)) (pgs_cons (pg_name (i := 5) sc_Search_init.nd rfl (Or.inl rfl)) pgs_nil)))) (fun _ _ _ _ _ => pts_nil) (fun _ _ _ _ _ => (pe_call G_scale_of (hr.mono (by decide)) (by rfl) Tp.g_scale_of Tp.F_scale_of.kp Tp.b_scale_of .nil pass0 (pa_cons (pv 4) pa_nil)))) rfl)
      (pss_cons (ps_fld (pv 0) (pe_lc (own := [("scale", 6), ("parts", 4), ("_", 5)]) (g := (gTup K 2 (gCons (gTup K 2 (gCons (gName 4) (gCons (gName 5) gNil))) (gCons (gName 6) gNil)))) (tt := tYes) rfl sc_Search_init.nd (ZE.pi_zip0 (by rfl) Tp.n_zip (pa_cons (pv 3) (pa_cons (pe_fld (pv 0) rfl) pa_nil))) (blkOk_by (N := ["self", "weights", "wishes", "lines", "parts", "_", "scale", "bound"]) (sc := defScope s_Search_init) (by decide +kernel)) (fun _ _ _ _ _ => (pg_tup rfl (pgs_cons (pg_tup rfl (pgs_cons (pg_name (i := 4) sc_Search_init.nd rfl (Or.inl rfl)) (pgs_cons (pg_name (i := 5) sc_Search_init.nd rfl (Or.inl rfl)) pgs_nil))) (pgs_cons (pg_name (i := 6) sc_Search_init.nd rfl (Or.inl rfl)) pgs_nil)))) (fun _ _ _ _ _ => pts_nil) (fun _ _ _ _ _ => (pe_call G_whole_factors (hr.mono (by decide)) (by rfl) Tp.g_whole_factors Tp.F_whole_factors.kp Tp.b_whole_factors .nil pass0 (pa_cons (pv 4) (pa_cons (pv 6) pa_nil))))) rfl)
      (pss_cons (ps_fld (pv 0) (pe_lc (own := [("scale", 6), ("_", 5), ("bound", 7)]) (g := (gTup K 2 (gCons (gTup K 2 (gCons (gName 5) (gCons (gName 7) gNil))) (gCons (gName 6) gNil)))) (tt := tYes) rfl sc_Search_init.nd (ZE.pi_zip0 (by rfl) Tp.n_zip (pa_cons (pv 3) (pa_cons (pe_fld (pv 0) rfl) pa_nil))) (blkOk_by (N := ["self", "weights", "wishes", "lines", "parts", "_", "scale", "bound"]) (sc := defScope s_Search_init) (by decide +kernel)) (fun _ _ _ _ _ => (pg_tup rfl (pgs_cons (pg_tup rfl (pgs_cons (pg_name (i := 5) sc_Search_init.nd rfl (Or.inl rfl)) (pgs_cons (pg_name (i := 7) sc_Search_init.nd rfl (Or.inl rfl)) pgs_nil))) (pgs_cons (pg_name (i := 6) sc_Search_init.nd rfl (Or.inl rfl)) pgs_nil)))) (fun _ _ _ _ _ => pts_nil) (fun _ _ _ _ _ => (pe_tup (pa_cons (pe_op op_mulW (pe_ix (r := rIxT K) ix_tup (pv 7) pe_int (fun _ _ => rfl)) (pv 6)) (pa_cons (pe_ix (r := rIxT K) ix_tup (pv 7) pe_int (fun _ _ => rfl)) pa_nil))))) rfl)
      (pss_cons (ps_fld (pv 0) (pv 1) rfl)
      (pss_cons (ps_fld (pv 0) (pe_lst pa_nil) rfl)
      (pss_one (ps_fld (pv 0) pe_dnewK rfl)))))))), body_I ?_ h⟩
  refine fun ds fs r a I hT nf => ?_
  obtain ⟨ws, pts, rfl, rfl⟩ := r
  walk_at "norm"
  apply Exists.intro
  refine s_seq (s_fld (L := I) Tp.cl_Search Tp.na_Search_point (e_listT (ds := pts.map fr) (p_cons (e_var rfl) a_nil)) rfl (by decide) nf) ?_
  refine s_seq (s_fld (L := I) (d := .d (.list [])) Tp.cl_Search Tp.na_Search_scales (e_lcW (es := []) (iw_t (ds := []) (e_var rfl)) rfl (by decide) fun i y hi => absurd hi (Nat.not_lt_zero _)) rfl (lt_set (show (0 : Nat) < 999 by decide)) nf) ?_
  refine s_seq (s_fld (L := I) (d := .d (.list [])) Tp.cl_Search Tp.na_Search_factors (e_lcW (es := []) (iw_z0 (ys := []) (xs := fun _ => .none) (p_cons (e_var (i := 3) rfl) (p_cons (e_fldO Tp.cl_Search Tp.na_Search_scales (i := 0) rfl (by rw [look_set, if_pos rfl])) a_nil))) rfl (by decide) fun i y hi => absurd hi (by omega)) rfl (Nat.lt_of_le_of_lt len_set (Nat.lt_of_le_of_lt (Nat.succ_le_succ len_set) (by decide))) nf) ?_
  refine s_seq (s_fld (L := I) (d := .d (.list [])) Tp.cl_Search Tp.na_Search_edges (e_lcW (es := []) (iw_z0 (ys := []) (xs := fun _ => .none) (p_cons (e_var (i := 3) rfl) (p_cons (e_fldO Tp.cl_Search Tp.na_Search_scales (i := 0) rfl (by rw [look_set, if_neg (by decide +kernel), look_set, if_pos rfl])) a_nil))) rfl (by decide) fun i y hi => absurd hi (by omega)) rfl (Nat.lt_of_le_of_lt len_set (Nat.lt_of_le_of_lt (Nat.succ_le_succ (Nat.le_trans len_set (Nat.succ_le_succ len_set))) (by decide))) nf) ?_
  refine s_seq (s_fld (L := I) Tp.cl_Search Tp.na_Search_weights (d := .t (ws.map PyData.int)) (e_var rfl) rfl (lt_set (lt_set (lt_set (lt_set (show (0 : Nat) < 996 by decide))))) nf) ?_
  refine s_seq (s_fld (L := I) (d := .d (.list [])) Tp.cl_Search Tp.na_Search_groups (e_lst a_nil .nil (by decide)) rfl (lt_set (lt_set (lt_set (lt_set (lt_set (show (0 : Nat) < 995 by decide)))))) nf) ?_
  exact s_fld (L := I) (d := .k []) Tp.cl_Search Tp.na_Search_amounts e_newK rfl (lt_set (lt_set (lt_set (lt_set (lt_set (lt_set (show (0 : Nat) < 994 by decide))))))) nf
theorem fok_Search_raise_line (Tp : Top K mg base) : FnOk P w K mg base (L2.CX P w) 3 Tp.f_Search_raise_line Tp.d_Search_raise_line ["self", "line"] (spP K fun _ _ => False) := by
  have G_over := fok_over (P := P) (w := w) (base := base) Tp
  have G_compare := fok_compare (P := P) (w := w) (base := base) Tp
  refine Tp.F_Search_raise_line.okX sc_Search_raise_line (fun vs H Q E h => by obtain ⟨_, _, _, _, _, r, _⟩ := h; exact r.elim) (fun cdv A outer s H vs Q E hr h => ?_)
  obtain ⟨_, _, _, _, _, r, _⟩ := h
  exact r.elim
theorem fok_gap_of_ends (Tp : Top K mg base) : FnOk P w K mg base CX0 3 Tp.f_gap_of_ends Tp.d_gap_of_ends ["one", "other"] (spP K RGapE) := by
  have G_greatest := fok_greatest (P := P) (w := w) (base := base) Tp
  have G_minus := fok_minus (P := P) (w := w) (base := base) Tp
  refine Tp.F_gap_of_ends.ok sc_gap_of_ends (fun vs H Q E h => len_P (fun _ _ ⟨_, _, _, _, e, _⟩ => by rw [e]; rfl) h) (fun cdv A outer s H vs Q E hr h => ?_)
  refine ⟨_, (pss_one (ps_ret (pe_call G_greatest (hr.mono (by decide)) (by rfl) Tp.g_greatest Tp.F_greatest.kp Tp.b_greatest .nil pass0 (pa_cons (pe_tup (pa_cons (pe_call G_minus (hr.mono (by decide)) (by rfl) Tp.g_minus Tp.F_minus.kp Tp.b_minus .nil pass0 (pa_cons (pe_ix (r := rIxT K) ix_tup (pv 1) pe_int (fun _ _ => rfl)) (pa_cons (pe_ix (r := rIxT K) ix_tup (pv 0) pe_int (fun _ _ => rfl)) pa_nil))) (pa_cons (pe_call G_minus (hr.mono (by decide)) (by rfl) Tp.g_minus Tp.F_minus.kp Tp.b_minus .nil pass0 (pa_cons (pe_ix (r := rIxT K) ix_tup (pv 0) pe_int (fun _ _ => rfl)) (pa_cons (pe_ix (r := rIxT K) ix_tup (pv 1) pe_int (fun _ _ => rfl)) pa_nil))) pa_nil))) pa_nil)))), body_P ?_ h⟩
  refine fun ds d r I => ?_
  obtain ⟨la, ha, lb, hb, rfl, h1, h2, h3, h4, rfl⟩ := r
  walk_at "norm"
  have m1 := PL.ok_minus h3 h2
  have m2 := PL.ok_minus h1 h4
  exact p_ret (p_call (R := RBest more) (ds := [.t [fr (minusM lb ha), fr (minusM la hb)]]) (p_cons (p_tup2 (p_cons (p_call (R := RPlus minusM) (ds := [.d (fr lb), .d (fr ha)]) (p_cons (p_i0 (e_var rfl)) (p_cons (p_i1 (e_var rfl)) a_nil)) (RPlus.mk h3 h2)) (p_cons (p_call (R := RPlus minusM) (ds := [.d (fr la), .d (fr hb)]) (p_cons (p_i0 (e_var rfl)) (p_cons (p_i1 (e_var rfl)) a_nil)) (RPlus.mk h1 h4)) a_nil))) a_nil) ⟨minusM lb ha, [minusM la hb], rfl, two_in (m1.mono (by decide)) (m2.mono (by decide)), rfl⟩)
theorem fok_ends_overlap (Tp : Top K mg base) : FnOk P w K mg base CX0 3 Tp.f_ends_overlap Tp.d_ends_overlap ["one", "other"] (spT K Tp.tabs (RPairs lt0)) := by
  have G_compare := fok_compare (P := P) (w := w) (base := base) Tp
  refine Tp.F_ends_overlap.ok sc_ends_overlap (fun vs H Q E h => len_P (fun _ _ ⟨_, _, e, _⟩ => by rw [e]; rfl) h) (fun A outer s H vs Q E hr h => ?_)
  refine ⟨_, (pss_one (ps_ret (GX.pe_all (own := [("axis", 2)]) hr (by rfl) Tp.n_all (by decide +kernel) Tp.tb_ends_overlap rfl (blkOk_by (N := ["one", "other", "axis"]) (sc := defScope s_ends_overlap) (by decide +kernel)) ⟨rfl, by decide +kernel, rfl⟩ sc_ends_overlap.nd (pi_tup (pe_tup (pa_cons pe_int (pa_cons pe_int pa_nil)))) (fun _ _ _ _ _ _ _ => (pg_name (i := 2) sc_ends_overlap.nd rfl (Or.inl rfl))) (fun _ _ _ _ _ _ hr => pts_nil) (fun _ _ _ _ _ _ hr => (pe_and (pe_cmpR op_lt (pe_call G_compare (hr.mono (by decide)) (by rfl) Tp.g_compare Tp.F_compare.kp Tp.b_compare .nil pass0 (pa_cons (pe_ix (r := rIxT K) ix_tup (pe_ix (r := rIxT K) ix_tup (pv 1) (pv 2) (fun _ _ => rfl)) pe_int (fun _ _ => rfl)) (pa_cons (pe_ix (r := rIxT K) ix_tup (pe_ix (r := rIxT K) ix_tup (pv 0) (pv 2) (fun _ _ => rfl)) pe_int (fun _ _ => rfl)) pa_nil))) pe_int (nomark _)) (pe_one (pe_cmpR op_lt (pe_call G_compare (hr.mono (by decide)) (by rfl) Tp.g_compare Tp.F_compare.kp Tp.b_compare .nil pass0 (pa_cons (pe_ix (r := rIxT K) ix_tup (pe_ix (r := rIxT K) ix_tup (pv 0) (pv 2) (fun _ _ => rfl)) pe_int (fun _ _ => rfl)) (pa_cons (pe_ix (r := rIxT K) ix_tup (pe_ix (r := rIxT K) ix_tup (pv 1) (pv 2) (fun _ _ => rfl)) pe_int (fun _ _ => rfl)) pa_nil))) pe_int (nomark _))))) (fun _ => rfl)))), body_T ?_ h⟩
  refine fun ds d r I hT => ?_
  obtain ⟨a, b, rfl, ha, hb, rfl⟩ := r
  walk_at "norm"
  refine p_ret (e_is (e_genT (T' := Tp.tabs) (P := Tp.tp_ends_overlap) (ds := [.int 0, .int 1]) (ks := [(true, (lt0 (cmpM b.p0 (plusM a.p0 a.s0)) 0 && lt0 (cmpM a.p0 (plusM b.p0 b.s0)) 0)), (true, (lt0 (cmpM b.p1 (plusM a.p1 a.s1)) 0 && lt0 (cmpM a.p1 (plusM b.p1 b.s1)) 0))]) (by first | exact List.mem_cons_self | exact List.mem_cons_of_mem _ List.mem_cons_self) (p_tup2 (by walk_at "ev")) rfl fun i x p hx hp => ?_) ?_)
  · match i, hx, hp with
    | 0, hx, hp =>
      obtain rfl := Option.some.inj hx
      obtain rfl := Option.some.inj hp
      exact ⟨_, w_name List.mem_cons_self, t_yes, fun _ => e_andV (p_lt (p_call (R := RCmp) (ds := [.d (fr b.p0), .d (fr (plusM a.p0 a.s0))]) (p_cons (p_i0 (p_ixT (ds := [vcd b.p0 (plusM b.p0 b.s0), vcd b.p1 (plusM b.p1 b.s1)]) (i := 0) (e_var rfl) (e_var rfl) rfl)) (p_cons (p_i1 (p_ixT (ds := [vcd a.p0 (plusM a.p0 a.s0), vcd a.p1 (plusM a.p1 a.s1)]) (i := 0) (e_var rfl) (e_var rfl) rfl)) a_nil)) ⟨_, _, rfl, hb.p0.mono (by decide), ha.h0, rfl⟩) (by walk_at "ev")) fun _ => p_lt (p_call (R := RCmp) (ds := [.d (fr a.p0), .d (fr (plusM b.p0 b.s0))]) (p_cons (p_i0 (p_ixT (ds := [vcd a.p0 (plusM a.p0 a.s0), vcd a.p1 (plusM a.p1 a.s1)]) (i := 0) (e_var rfl) (e_var rfl) rfl)) (p_cons (p_i1 (p_ixT (ds := [vcd b.p0 (plusM b.p0 b.s0), vcd b.p1 (plusM b.p1 b.s1)]) (i := 0) (e_var rfl) (e_var rfl) rfl)) a_nil)) ⟨_, _, rfl, ha.p0.mono (by decide), hb.h0, rfl⟩) (by walk_at "ev")⟩
    | 1, hx, hp =>
      obtain rfl := Option.some.inj hx
      obtain rfl := Option.some.inj hp
      exact ⟨_, w_name List.mem_cons_self, t_yes, fun _ => e_andV (p_lt (p_call (R := RCmp) (ds := [.d (fr b.p1), .d (fr (plusM a.p1 a.s1))]) (p_cons (p_i0 (p_ixT (ds := [vcd b.p0 (plusM b.p0 b.s0), vcd b.p1 (plusM b.p1 b.s1)]) (i := 1) (e_var rfl) (e_var rfl) rfl)) (p_cons (p_i1 (p_ixT (ds := [vcd a.p0 (plusM a.p0 a.s0), vcd a.p1 (plusM a.p1 a.s1)]) (i := 1) (e_var rfl) (e_var rfl) rfl)) a_nil)) ⟨_, _, rfl, hb.p1.mono (by decide), ha.h1, rfl⟩) (by walk_at "ev")) fun _ => p_lt (p_call (R := RCmp) (ds := [.d (fr a.p1), .d (fr (plusM b.p1 b.s1))]) (p_cons (p_i0 (p_ixT (ds := [vcd a.p0 (plusM a.p0 a.s0), vcd a.p1 (plusM a.p1 a.s1)]) (i := 1) (e_var rfl) (e_var rfl) rfl)) (p_cons (p_i1 (p_ixT (ds := [vcd b.p0 (plusM b.p0 b.s0), vcd b.p1 (plusM b.p1 b.s1)]) (i := 1) (e_var rfl) (e_var rfl) rfl)) a_nil)) ⟨_, _, rfl, ha.p1.mono (by decide), hb.h1, rfl⟩) (by walk_at "ev")⟩
    | n + 2, hx, hp => simp at hx
  · rw [gen_two]
    rfl
theorem fok_check_bodies (Tp : Top K mg base) : FnOk P w K mg base (L2.CX P w) 3 Tp.f_check_bodies Tp.d_check_bodies ["bodies"] (spX K (RBods Tp.c_BodyError)) := by
  have G_is_body_sound := fok_is_body_sound (P := P) (w := w) (base := base) Tp
  refine Tp.F_check_bodies.okX sc_check_bodies (fun vs H Q E h => len_X (fun _ _ ⟨_, e, _⟩ => by rw [e]; rfl) h) (fun cdv A outer s H vs Q E hr h => ?_)
  refine ⟨_, (pss_cons (ps_set (i := 1) sc_check_bodies.nd rfl (.inl rfl) (pe_un un_neg pe_int))
      (pss_one (ps_for (passes_of rfl) rfl (pi_tup (pv 0)) (pg_name (i := 2) sc_check_bodies.nd rfl (.inl rfl)) (pss_cons (ps_set (i := 3) sc_check_bodies.nd rfl (.inl rfl) (pe_ix (r := rIxT K) ix_tup (pv 2) pe_int (fun _ _ => rfl)))
      (pss_cons (ps_if (PW.pt (pw_or (pt_cmpR op_gt (pv 3) (pe_glob (v := .int 999999999) (by rfl) Tp.gk_NAME_LIMIT ⟨_, rfl⟩) (nomark _)) (pw_or (pt_cmpR op_le (pv 3) (pv 1) (nomark _)) (pw_or1 (pt_not (pt_val (pe_call G_is_body_sound (hr.mono (by decide)) (by rfl) Tp.g_is_body_sound Tp.F_is_body_sound.kp Tp.b_is_body_sound .nil pass0 (pa_cons (pv 2) pa_nil)))))))) (pss_one (ps_raise rfl (takes_of rfl rfl rfl rfl) (pmk_own PySem.F.excBase_ValueError Tp.xc_BodyError Tp.gc_BodyError Tp.kc_BodyError (raises_own Tp.bc_BodyError Tp.tc_BodyError) rfl))) pss_nil)
      (pss_one (ps_set (i := 1) sc_check_bodies.nd rfl (.inl rfl) (pv 3)))))))), body_XN ?_ h⟩
  refine fun ds r hr I hx => ?_
  obtain ⟨bs, rfl, hbs, hr⟩ := hr
  walk_at "norm"
  rcases hr with ⟨h0, rfl⟩ | ⟨h0, rfl⟩
  · refine .inl ⟨rfl, [some (.t (bs.map bdD)), none, none, none], q_asg (d := .i (-1)) (by walk_at "ev") ?_⟩
    refine s_loopR1 (α := Int) (fun i rest bf => badB bf rest = false ∧ ∀ z ∈ rest, BdOk z) (fun bf => [some (.t (bs.map bdD)), some (.i bf), none, none]) (fun _ => I) (-1) ⟨h0, hbs⟩ (iw_t (e_var rfl)) (by rw [List.length_map]) (fun i z h => at0_map h) rfl (fun i z rest bf hw => ?_) (fun bf i hw => s_lessN (ρ' := [some (.t (bs.map bdD)), some (.i bf), none, none]) ⟨.inr rfl, .inl rfl, .inr rfl, .inr rfl, trivial⟩ s_next)
    obtain ⟨h1, h2⟩ := hw
    have hz := h2 z List.mem_cons_self
    have h1 : (bad1 bf z || badB z.nm rest) = false := h1
    rw [Bool.or_eq_false_iff] at h1
    refine ⟨_, g_name, .inl ⟨z.nm, ⟨h1.2, fun y hy => h2 y (List.mem_cons_of_mem _ hy)⟩, ?_⟩⟩
    refine s_lessN (ρ' := [some (.t (bs.map bdD)), some (.i z.nm), some (.d (bdD z)), some (.i z.nm)]) ⟨.inr rfl, .inr rfl, .inl rfl, .inl rfl, trivial⟩ ?_
    refine q_asg (d := .i z.nm) (p_i0 (e_var rfl)) ?_
    refine q_skip (t_or (p_test (p_gt (i := z.nm) (j := 999999999) (by walk_at "ev") e_int)) fun _ => t_or (p_test (p_le (i := z.nm) (j := bf) (by walk_at "ev") (by walk_at "ev"))) fun _ => t_not (t_B (p_call (R := RSound) (ds := [.d (bdD z)]) (by walk_at "ev") ⟨_, rfl, hz, rfl⟩))) h1.1 (p_asg (by walk_at "ev"))
  · refine .inr ⟨_, rfl, fun k => s_any (q_asg (d := .i (-1)) (by walk_at "ev") ?_)⟩
    refine s_loopR1 (α := Int) (fun i rest bf => badB bf rest = true ∧ ∀ z ∈ rest, BdOk z) (fun bf => [some (.t (bs.map bdD)), some (.i bf), none, none]) (fun _ => I) (-1) ⟨h0, hbs⟩ (iw_t (e_var rfl)) (by rw [List.length_map]) (fun i z h => at0_map h) rfl (fun i z rest bf hw => ?_) (fun bf i hw => (by cases hw.1))
    obtain ⟨h1, h2⟩ := hw
    have hz := h2 z List.mem_cons_self
    have h1 : (bad1 bf z || badB z.nm rest) = true := h1
    by_cases c : bad1 bf z = true
    · refine ⟨_, g_name, .inr ⟨ret_fin, q_asg (d := .i z.nm) (p_i0 (e_var rfl)) ?_⟩⟩
      exact s_stopR ret_fin (q_ifT (t_or (p_test (p_gt (i := z.nm) (j := 999999999) (by walk_at "ev") e_int)) fun _ => t_or (p_test (p_le (i := z.nm) (j := bf) (by walk_at "ev") (by walk_at "ev"))) fun _ => t_not (t_B (p_call (R := RSound) (ds := [.d (bdD z)]) (by walk_at "ev") ⟨_, rfl, hz, rfl⟩))) c (s_raise' fun G H σ D gh io => hx _ rfl G H io))
    · have c := Bool.eq_false_iff.mpr c
      rw [c, Bool.false_or] at h1
      refine ⟨_, g_name, .inl ⟨z.nm, ⟨h1, fun y hy => h2 y (List.mem_cons_of_mem _ hy)⟩, ?_⟩⟩
      refine s_lessN (ρ' := [some (.t (bs.map bdD)), some (.i z.nm), some (.d (bdD z)), some (.i z.nm)]) ⟨.inr rfl, .inr rfl, .inl rfl, .inl rfl, trivial⟩ ?_
      refine q_asg (d := .i z.nm) (p_i0 (e_var rfl)) ?_
      refine q_skip (t_or (p_test (p_gt (i := z.nm) (j := 999999999) (by walk_at "ev") e_int)) fun _ => t_or (p_test (p_le (i := z.nm) (j := bf) (by walk_at "ev") (by walk_at "ev"))) fun _ => t_not (t_B (p_call (R := RSound) (ds := [.d (bdD z)]) (by walk_at "ev") ⟨_, rfl, hz, rfl⟩))) c (p_asg (by walk_at "ev"))
theorem fok_joint_way (Tp : Top K mg base) : FnOk P w K mg base CX0 3 Tp.f_joint_way Tp.d_joint_way ["places", "joint"] (spP K RWay) := by
  have G_minus := fok_minus (P := P) (w := w) (base := base) Tp
  refine Tp.F_joint_way.ok sc_joint_way (fun vs H Q E h => len_P (fun _ _ ⟨_, _, _, _, e, _⟩ => by rw [e]; rfl) h) (fun cdv A outer s H vs Q E hr h => ?_)
  refine ⟨_, (pss_cons (ps_asg (pv 1) (pg_tup rfl (pgs_cons (pg_name (i := 2) sc_joint_way.nd rfl (.inl rfl)) (pgs_cons (pg_name (i := 3) sc_joint_way.nd rfl (.inl rfl)) (pgs_cons (pg_name (i := 4) sc_joint_way.nd rfl (.inl rfl)) (pgs_cons (pg_name (i := 5) sc_joint_way.nd rfl (.inl rfl)) (pgs_cons (pg_name (i := 5) sc_joint_way.nd rfl (.inl rfl)) pgs_nil)))))))
      (pss_one (ps_ret (pe_call G_minus (hr.mono (by decide)) (by rfl) Tp.g_minus Tp.F_minus.kp Tp.b_minus .nil pass0 (pa_cons (pe_ix (r := rIxT K) ix_tup (pe_dget (hu_of hr) (pv 0) (pv 3) (fun _ _ => rfl)) (pv 4) (fun _ _ => rfl)) (pa_cons (pe_ix (r := rIxT K) ix_tup (pe_dget (hu_of hr) (pv 0) (pv 2) (fun _ _ => rfl)) (pv 4) (fun _ _ => rfl)) pa_nil)))))), body_P ?_ h⟩
  refine fun ds d r I => ?_
  obtain ⟨bs, ⟨a, b, k, lo, hi⟩, x, y, rfl, fa, fb, hk, hx, hy, rfl⟩ := r
  walk_at "norm"
  refine s_seq (s_asgG (e_var rfl) (g_tup rfl (g_cons g_name (g_cons g_name (g_cons g_name (g_cons g_name (g_cons g_name g_nil))))))) ?_
  have hk : k = 0 ∨ k = 1 := hk
  rcases hk with rfl | rfl
  · exact p_ret (p_call (R := RPlus minusM) (ds := [.d (fr y.bx.p0), .d (fr x.bx.p0)]) (p_cons (p_ixT (ds := [fr y.bx.p0, fr y.bx.p1]) (i := 0) (e_kGet (x := vcd y.bx.p0 y.bx.p1) (e_var rfl) (e_var rfl) (by rw [plc_get, fb]; rfl)) (e_var rfl) rfl) (p_cons (p_ixT (ds := [fr x.bx.p0, fr x.bx.p1]) (i := 0) (e_kGet (x := vcd x.bx.p0 x.bx.p1) (e_var rfl) (e_var rfl) (by rw [plc_get, fa]; rfl)) (e_var rfl) rfl) a_nil)) (RPlus.mk hy.bx.p0 hx.bx.p0))
  · exact p_ret (p_call (R := RPlus minusM) (ds := [.d (fr y.bx.p1), .d (fr x.bx.p1)]) (p_cons (p_ixT (ds := [fr y.bx.p0, fr y.bx.p1]) (i := 1) (e_kGet (x := vcd y.bx.p0 y.bx.p1) (e_var rfl) (e_var rfl) (by rw [plc_get, fb]; rfl)) (e_var rfl) rfl) (p_cons (p_ixT (ds := [fr x.bx.p0, fr x.bx.p1]) (i := 1) (e_kGet (x := vcd x.bx.p0 x.bx.p1) (e_var rfl) (e_var rfl) (by rw [plc_get, fa]; rfl)) (e_var rfl) rfl) a_nil)) (RPlus.mk hy.bx.p1 hx.bx.p1))
theorem fok_check_pushed (Tp : Top K mg base) : FnOk P w K mg base (L2.CX P w) 3 Tp.f_check_pushed Tp.d_check_pushed ["state", "pushes"] (spX K (RPushed Tp.c_PushError)) := by
  have G_are_moving_names := fok_are_moving_names (P := P) (w := w) (base := base) Tp
  refine Tp.F_check_pushed.okX sc_check_pushed (fun vs H Q E h => len_X (fun _ _ ⟨_, _, e, _⟩ => by rw [e]; rfl) h) (fun cdv A outer s H vs Q E hr h => ?_)
  refine ⟨_, (pss_one (ps_if (pt_not (pt_val (pe_call G_are_moving_names (hr.mono (by decide)) (by rfl) Tp.g_are_moving_names Tp.F_are_moving_names.kp Tp.b_are_moving_names .nil pass0 (pa_cons (pe_ix (r := rIxT K) ix_tup (pv 0) pe_int (fun _ _ => rfl)) (pa_cons (pe_lc (own := [("name", 2), ("_", 3)]) (g := (gTup K 2 (gCons (gName 2) (gCons (gName 3) gNil)))) (tt := tYes) rfl sc_check_pushed.nd (pi_tup (pv 1)) (blkOk_by (N := ["state", "pushes", "name", "_"]) (sc := defScope s_check_pushed) (by decide +kernel)) (fun _ _ _ _ _ => (pg_tup rfl (pgs_cons (pg_name (i := 2) sc_check_pushed.nd rfl (Or.inl rfl)) (pgs_cons (pg_name (i := 3) sc_check_pushed.nd rfl (Or.inl rfl)) pgs_nil)))) (fun _ _ _ _ _ => pts_nil) (fun _ _ _ _ _ => (pv 2))) pa_nil))))) (pss_one (ps_raise rfl (takes_of rfl rfl rfl rfl) (pmk_own PySem.F.excBase_ValueError Tp.xc_PushError Tp.gc_PushError Tp.kc_PushError (raises_own Tp.bc_PushError Tp.tc_PushError) rfl))) pss_nil)), body_XN ?_ h⟩
  refine fun ds r hr I hx => ?_
  obtain ⟨st, ps, rfl, nd, hl, hlp, hr⟩ := hr
  walk_at "norm"
  rcases hr with ⟨h0, rfl⟩ | ⟨h0, rfl⟩
  · refine .inl ⟨rfl, _, q_skip (t_not (t_B (p_call (R := RMovN) (ds := [.t (st.bs.map bdD), .d (.list ((ps.map (·.1)).map PyData.int))]) (p_cons (p_i0 (e_var rfl)) (p_cons (e_is (d := .d (.list (ps.map fun z => .int z.1))) ?_ (by rw [List.map_map]; rfl)) a_nil)) ⟨st.bs, ps.map (·.1), rfl, nd, hl, rfl⟩))) (by show (!!badP st.bs (-1) ps) = false; rw [h0]; rfl) s_next⟩
    refine (e_is (e_lcW (es := ps.map fun z => PyData.int z.1) (iw_t (e_var rfl)) (by rw [List.length_map, List.length_map]) (by rw [List.length_map]; exact hlp) fun i y hi hy => ?_) rfl)
    obtain ⟨z, hz, rfl⟩ := getElem?_of_map hy
    rw [at0_map hz]
    exact ⟨_, w_tup rfl (w_cons (w_name (by decide)) (w_cons (w_name (by decide)) w_nil)), fun I' => e_var rfl⟩
  · refine .inr ⟨_, rfl, fun k => s_any (q_ifT (t_not (t_B (p_call (R := RMovN) (ds := [.t (st.bs.map bdD), .d (.list ((ps.map (·.1)).map PyData.int))]) (p_cons (p_i0 (e_var rfl)) (p_cons (e_is (d := .d (.list (ps.map fun z => .int z.1))) ?_ (by rw [List.map_map]; rfl)) a_nil)) ⟨st.bs, ps.map (·.1), rfl, nd, hl, rfl⟩))) (by show (!!badP st.bs (-1) ps) = true; rw [h0]; rfl) (s_raise' fun G H σ D gh io => hx _ rfl G H io))⟩
    refine (e_is (e_lcW (es := ps.map fun z => PyData.int z.1) (iw_t (e_var rfl)) (by rw [List.length_map, List.length_map]) (by rw [List.length_map]; exact hlp) fun i y hi hy => ?_) rfl)
    obtain ⟨z, hz, rfl⟩ := getElem?_of_map hy
    rw [at0_map hz]
    exact ⟨_, w_tup rfl (w_cons (w_name (by decide)) (w_cons (w_name (by decide)) w_nil)), fun I' => e_var rfl⟩
theorem fok_free_speed (Tp : Top K mg base) : FnOk P w K mg base CX0 3 Tp.f_free_speed Tp.d_free_speed ["body", "pull", "push"] (spP K RFree) := by
  have G_add := fok_add (P := P) (w := w) (base := base) Tp
  have G_is_moving := fok_is_moving (P := P) (w := w) (base := base) Tp
  have G_scale := fok_scale (P := P) (w := w) (base := base) Tp
  refine Tp.F_free_speed.ok sc_free_speed (fun vs H Q E h => len_P (fun _ _ ⟨_, _, _, _, _, e, _⟩ => by rw [e]; rfl) h) (fun cdv A outer s H vs Q E hr h => ?_)
  refine ⟨_, (pss_cons (ps_asg (pv 0) (pg_tup rfl (pgs_cons (pg_name (i := 3) sc_free_speed.nd rfl (.inl rfl)) (pgs_cons (pg_name (i := 3) sc_free_speed.nd rfl (.inl rfl)) (pgs_cons (pg_name (i := 3) sc_free_speed.nd rfl (.inl rfl)) (pgs_cons (pg_name (i := 4) sc_free_speed.nd rfl (.inl rfl)) (pgs_cons (pg_name (i := 3) sc_free_speed.nd rfl (.inl rfl)) (pgs_cons (pg_name (i := 5) sc_free_speed.nd rfl (.inl rfl)) pgs_nil))))))))
      (pss_cons (ps_if (pt_not (pt_val (pe_call G_is_moving (hr.mono (by decide)) (by rfl) Tp.g_is_moving Tp.F_is_moving.kp Tp.b_is_moving .nil pass0 (pa_cons (pv 0) pa_nil)))) (pss_one (ps_ret (pv 5))) pss_nil)
      (pss_one (ps_ret (pe_call G_add (hr.mono (by decide)) (by rfl) Tp.g_add Tp.F_add.kp Tp.b_add .nil pass0 (pa_cons (pv 5) (pa_cons (pe_call G_add (hr.mono (by decide)) (by rfl) Tp.g_add Tp.F_add.kp Tp.b_add .nil pass0 (pa_cons (pv 1) (pa_cons (pe_call G_scale (hr.mono (by decide)) (by rfl) Tp.g_scale Tp.F_scale.kp Tp.b_scale .nil pass0 (pa_cons (pv 2) (pa_cons (pe_tup (pa_cons pe_int (pa_cons (pv 4) pa_nil))) pa_nil))) pa_nil))) pa_nil))))))), body_P ?_ h⟩
  refine fun ds d r I => ?_
  obtain ⟨b, a0, a1, p0, p1, rfl, h0, h1, ha0, ha1, hp0, hp1, hm, rfl⟩ := r
  walk_at "norm"
  refine s_seq (s_asgG (e_var rfl) (g_tup rfl (g_cons g_name (g_cons g_name (g_cons g_name (g_cons g_name (g_cons g_name (g_cons g_name g_nil)))))))) ?_
  unfold freeV
  by_cases c : 0 < b.ms
  · rw [if_pos c]
    have om := ok_one c hm
    have t0 := PL.ok_times hp0 om
    have t1 := PL.ok_times hp1 om
    refine q_skip (t_not (t_B (p_call (R := RMoving) (ds := [.d (bdD b)]) (by walk_at "ev") ⟨b, rfl, rfl⟩))) (by rw [decide_eq_true c]; rfl) ?_
    refine p_ret (p_call (R := RVec2 plusM) (ds := [.t [fr b.v0, fr b.v1], .t [fr (plusM a0 (timesM p0 (1, b.ms))), fr (plusM a1 (timesM p1 (1, b.ms)))]]) (p_cons (e_var rfl) (p_cons (p_call (R := RVec2 plusM) (ds := [.t [fr a0, fr a1], .t [fr (timesM p0 (1, b.ms)), fr (timesM p1 (1, b.ms))]]) (p_cons (e_var rfl) (p_cons (p_call (R := RScale) (ds := [.t [fr p0, fr p1], .d (fr (1, b.ms))]) (p_cons (e_var rfl) (p_cons (p_frac (a := (1, b.ms)) (x := 1) (y := b.ms) (by walk_at "ev") rfl) a_nil)) ⟨p0, p1, (1, b.ms), rfl, hp0, hp1, om.mono (by decide), rfl⟩) a_nil)) (RVec2.mk ha0 ha1 t0 t1)) a_nil)) (RVec2.mk h0 h1 (PL.ok_plus ha0 t0) (PL.ok_plus ha1 t1)))
  · rw [if_neg c]
    exact s_stop (q_ifT (t_not (t_B (p_call (R := RMoving) (ds := [.d (bdD b)]) (by walk_at "ev") ⟨b, rfl, rfl⟩))) (by rw [decide_eq_false c]; rfl) (p_ret (e_var rfl)))
theorem fok_lines_of_rows (Tp : Top K mg base) : FnOk P w K mg base CX0 3 Tp.f_lines_of_rows Tp.d_lines_of_rows ["state", "rows"] (spP K RLines1) := by
  have G_spots_of := fok_spots_of (P := P) (w := w) (base := base) Tp
  refine Tp.F_lines_of_rows.ok sc_lines_of_rows (fun vs H Q E h => len_P (fun _ _ ⟨_, _, _, _, _, _, e, _⟩ => by rw [e]; rfl) h) (fun cdv A outer s H vs Q E hr h => ?_)
  refine ⟨_, (pss_cons (ps_set (i := 2) sc_lines_of_rows.nd rfl (.inr rfl) (pe_call G_spots_of (hr.mono (by decide)) (by rfl) Tp.g_spots_of Tp.F_spots_of.kp Tp.b_spots_of .nil pass0 (pa_cons (pv 0) pa_nil)))
      (pss_one (ps_ret (pe_callTy call_tuple_of (by rfl) Tp.n_tuple (by decide +kernel) (pa_cons (pe_lc (own := [("_", 3), ("parts", 4), ("bound", 5)]) (g := (gTup K 3 (gCons (gName 3) (gCons (gName 4) (gCons (gName 5) gNil))))) (tt := tYes) rfl sc_lines_of_rows.nd (pi_tup (pv 1)) (blkOk_by (N := ["state", "rows", "spots", "_", "parts", "bound", "name", "axis", "factor"]) (sc := defScope s_lines_of_rows) (by decide +kernel)) (fun _ _ _ _ _ => (pg_tup rfl (pgs_cons (pg_name (i := 3) sc_lines_of_rows.nd rfl (Or.inl rfl)) (pgs_cons (pg_name (i := 4) sc_lines_of_rows.nd rfl (Or.inl rfl)) (pgs_cons (pg_name (i := 5) sc_lines_of_rows.nd rfl (Or.inl rfl)) pgs_nil))))) (fun _ _ _ _ _ => pts_nil) (fun _ _ _ _ _ => (pe_tup (pa_cons (pe_callTy (T := "tuple") (r := rTupOf K) call_tuple_of (by rfl) Tp.n_tuple (by decide +kernel) (pa_cons (pe_lc (own := [("name", 6), ("axis", 7), ("factor", 8)]) (g := (gTup K 3 (gCons (gName 6) (gCons (gName 7) (gCons (gName 8) gNil))))) (wi := iTup K _) (tt := tYes) rfl sc_lines_of_rows.nd (pi_tup (pv 4)) (blkOk_by (N := ["state", "rows", "spots", "_", "parts", "bound", "name", "axis", "factor"]) (by with_unfolding_all rfl)) (fun _ _ _ _ _ => (pg_tup rfl (pgs_cons (pg_name (i := 6) sc_lines_of_rows.nd rfl (Or.inl rfl)) (pgs_cons (pg_name (i := 7) sc_lines_of_rows.nd rfl (Or.inl rfl)) (pgs_cons (pg_name (i := 8) sc_lines_of_rows.nd rfl (Or.inl rfl)) pgs_nil))))) (fun _ _ _ _ _ => pts_nil) (fun _ _ _ _ _ => (pe_tup (pa_cons (OB.pe_getX (P := P) (w := w) (K := K) rfl rfl rfl (hu_of hr) (pv 2) (pe_tup (pa_cons (pv 6) (pa_cons (pv 7) pa_nil))) (fun _ _ => rfl)) (pa_cons (pv 8) pa_nil))))) pa_nil)) (pa_cons (pv 5) pa_nil))))) pa_nil))))), body_P ?_ h⟩
  refine fun ds d r I => ?_
  obtain ⟨p0, p1, v0, v1, u0, u1, rfl, rfl⟩ := r
  walk_at "norm"
  refine q_asg (d := spD P w K) (p_call (R := RSpots1 P w K) (ds := [.d (stD (sta1 p0 p1 v0 v1 u0 u1))]) (by walk_at "ev") ⟨p0, p1, v0, v1, u0, u1, rfl, rfl⟩) ?_
  exact p_ret (e_tupOf (p_cons (e_lcW (es := []) (iw_t (ds := []) (e_var rfl)) rfl (by decide) fun i y hi => absurd hi (Nat.not_lt_zero _)) a_nil))
theorem fok_speeds_at (Tp : Top K mg base) : FnOk P w K mg base CX0 3 Tp.f_speeds_at Tp.d_speeds_at ["state", "point"] (spP K RSpeeds1) := by
  have G_spots_of := fok_spots_of (P := P) (w := w) (base := base) Tp
  have G_is_moving := fok_is_moving (P := P) (w := w) (base := base) Tp
  refine Tp.F_speeds_at.ok sc_speeds_at (fun vs H Q E h => len_P (fun _ _ ⟨_, _, _, _, _, _, _, _, e, _⟩ => by rw [e]; rfl) h) (fun cdv A outer s H vs Q E hr h => ?_)
  refine ⟨_, (pss_cons (ps_set (i := 2) sc_speeds_at.nd rfl (.inl rfl) (pe_call G_spots_of (hr.mono (by decide)) (by rfl) Tp.g_spots_of Tp.F_spots_of.kp Tp.b_spots_of .nil pass0 (pa_cons (pv 0) pa_nil)))
      (pss_cons (ps_set (i := 3) sc_speeds_at.nd rfl (.inl rfl) (pe_lst pa_nil))
      (pss_cons (ps_for PassesOwn.never rfl (pi_tup (pe_ix (r := rIxT K) ix_tup (pv 0) pe_int (fun _ _ => rfl))) (pg_name (i := 4) sc_speeds_at.nd rfl (.inl rfl)) (pss_one (ps_if (pt_val (pe_call G_is_moving (hr.mono (by decide)) (by rfl) Tp.g_is_moving Tp.F_is_moving.kp Tp.b_is_moving .nil pass0 (pa_cons (pv 4) pa_nil))) (pss_cons (ps_set (i := 5) sc_speeds_at.nd rfl (.inl rfl) (TK.pe_get (hu_of hr) (pv 2) (pe_tup (pa_cons (pe_ix (r := rIxT K) ix_tup (pv 4) pe_int (fun _ _ => rfl)) (pa_cons pe_int pa_nil))) (fun _ _ => rfl)))
      (pss_one (ps_expr (pe_bm PySem.F.plainAttrs_list PySem.F.slot_list_append PySem.F.type_list_append mt_append (pv 3) (pa_cons (pe_tup (pa_cons (pe_ix (r := rIxT K) ix_tup (pv 1) (pv 5) (fun _ _ => rfl)) (pa_cons (pe_ix (r := rIxT K) ix_tup (pv 1) (pe_op op_add (pv 5) pe_int) (fun _ _ => rfl)) pa_nil))) pa_nil))))) (pss_one (ps_expr (pe_bm PySem.F.plainAttrs_list PySem.F.slot_list_append PySem.F.type_list_append mt_append (pv 3) (pa_cons (pe_glob (v := .ref Tp.k_STANDING) (by rfl) Tp.gk_STANDING rfl) pa_nil)))))))
      (pss_one (ps_ret (pe_callTy call_tuple_of (by rfl) Tp.n_tuple (by decide +kernel) (pa_cons (pv 3) pa_nil))))))), body_P ?_ h⟩
  refine fun ds d r I => ?_
  obtain ⟨p0, p1, v0, v1, u0, u1, f0, f1, rfl, rfl⟩ := r
  walk_at "norm"
  refine q_asg (d := spD P w K) (p_call (R := RSpots1 P w K) (ds := [.d (stD (sta1 p0 p1 v0 v1 u0 u1))]) (by walk_at "ev") ⟨p0, p1, v0, v1, u0, u1, rfl, rfl⟩) ?_
  refine s_newL fun q hq => ?_
  refine s_for1S (ρ1 := [some (.d (stD (sta1 p0 p1 v0 v1 u0 u1))), some (.t [fr f0, fr f1]), some (spD P w K), some (.r q), none, none]) (J := lJ K q [vcd f0 f1] I) (e_iwn (iw_t (ds := [bdD (bd1 p0 p1 v0 v1)]) (p_i0 (e_var rfl))) rfl) rfl ⟨_, g_name, ?_⟩ ?_
  · refine s_lessN (ρ' := [some (.d (stD (sta1 p0 p1 v0 v1 u0 u1))), some (.t [fr f0, fr f1]), some (spD P w K), some (.r q), some (.d (bdD (bd1 p0 p1 v0 v1))), some (.i 0)]) ⟨.inr rfl, .inr rfl, .inr rfl, .inr rfl, .inl rfl, .inl rfl, trivial⟩ ?_
    refine s_ifT (t_is (t_B (p_call (R := RMoving) (ds := [.d (bdD (bd1 p0 p1 v0 v1))]) (p_cons (e_var (i := 4) rfl) a_nil) ⟨bd1 p0 p1 v0 v1, rfl, rfl⟩)) rfl) ?_
    refine q_asg (d := .i 0) (e_xGet (k := [.inl 3, .inl 0]) (x := .int 0) (e_var (i := 2) rfl) (p_tup2 (x := .int 3) (y := .int 0) (p_cons (p_i0 (e_var (i := 4) rfl)) (p_cons e_int a_nil))) rfl) ?_
    exact s_app (ds := []) (p_tup2 (x := fr f0) (y := fr f1) (p_cons (e_ixT (j := 0) (e_var (i := 1) rfl) (e_var (i := 5) rfl) rfl) (p_cons (e_ixT (j := 1) (e_var (i := 1) rfl) (e_is (p_add (i := 0) (j := 1) (e_var (i := 5) rfl) e_int) rfl) rfl) a_nil))) rfl (by decide) hq
  · exact s_freeze (i := 3) rfl hq (p_ret (e_tupOf (p_cons (e_var (i := 3) rfl) a_nil)))
theorem fok_with_speeds (Tp : Top K mg base) : FnOk P w K mg base CX0 3 Tp.f_with_speeds Tp.d_with_speeds ["state", "speeds"] (spP K RWith1) := by
  have G_add := fok_add (P := P) (w := w) (base := base) Tp
  refine Tp.F_with_speeds.ok sc_with_speeds (fun vs H Q E h => len_P (fun _ _ ⟨_, _, _, _, _, _, _, _, e, _⟩ => by rw [e]; rfl) h) (fun cdv A outer s H vs Q E hr h => ?_)
  refine ⟨_, (pss_cons (ps_asg (pv 0) (pg_tup rfl (pgs_cons (pg_name (i := 2) sc_with_speeds.nd rfl (.inl rfl)) (pgs_cons (pg_name (i := 3) sc_with_speeds.nd rfl (.inl rfl)) (pgs_cons (pg_name (i := 4) sc_with_speeds.nd rfl (.inl rfl)) pgs_nil)))))
      (pss_cons (ps_setLc (i := 5) (own := [("speed", 6), ("name", 7), ("place", 8), ("size", 9), ("mass", 10), ("grip", 11), ("_", 12)]) (g := (gTup K 2 (gCons (gTup K 6 (gCons (gName 7) (gCons (gName 8) (gCons (gName 9) (gCons (gName 10) (gCons (gName 11) (gCons (gName 12) gNil))))))) (gCons (gName 6) gNil)))) (tt := tYes) rfl sc_with_speeds.nd rfl rfl (sw_true rfl rfl rfl rfl) (RZ.pi_zipA (by rfl) Tp.n_zip (pa_cons (pv 2) (pa_cons (pv 1) pa_nil))) (blkOk_by (N := ["state", "speeds", "bodies", "joints", "pull", "new_bodies", "speed", "name", "place", "size", "mass", "grip", "_"]) (sc := defScope s_with_speeds) (by decide +kernel)) (fun _ _ _ _ _ => (pg_tup rfl (pgs_cons (pg_tup rfl (pgs_cons (pg_name (i := 7) sc_with_speeds.nd rfl (Or.inl rfl)) (pgs_cons (pg_name (i := 8) sc_with_speeds.nd rfl (Or.inl rfl)) (pgs_cons (pg_name (i := 9) sc_with_speeds.nd rfl (Or.inl rfl)) (pgs_cons (pg_name (i := 10) sc_with_speeds.nd rfl (Or.inl rfl)) (pgs_cons (pg_name (i := 11) sc_with_speeds.nd rfl (Or.inl rfl)) (pgs_cons (pg_name (i := 12) sc_with_speeds.nd rfl (Or.inl rfl)) pgs_nil))))))) (pgs_cons (pg_name (i := 6) sc_with_speeds.nd rfl (Or.inl rfl)) pgs_nil)))) (fun _ _ _ _ _ => pts_nil) (fun _ _ _ _ _ => (pe_tup (pa_cons (pv 7) (pa_cons (pe_call G_add (hr.mono (by decide)) (by rfl) Tp.g_add Tp.F_add.kp Tp.b_add .nil pass0 (pa_cons (pv 8) (pa_cons (pv 6) pa_nil))) (pa_cons (pv 9) (pa_cons (pv 10) (pa_cons (pv 11) (pa_cons (pv 6) pa_nil)))))))))
      (pss_one (ps_ret (pe_tup (pa_cons (pe_callTy call_tuple_of (by rfl) Tp.n_tuple (by decide +kernel) (pa_cons (pv 5) pa_nil)) (pa_cons (pv 3) (pa_cons (pv 4) pa_nil)))))))), body_P ?_ h⟩
  refine fun ds d r I => ?_
  obtain ⟨p0, p1, v0, v1, u0, u1, f0, f1, rfl, h, h0, h1, rfl⟩ := r
  have rv := RVec2.mk (f := plusM) h.p0 h.p1 h0 h1
  generalize plusM p0 f0 = x0 at rv ⊢
  generalize plusM p1 f1 = x1 at rv ⊢
  walk_at "norm"
  refine s_seq (s_asgG (e_var rfl) (g_tup rfl (g_cons g_name (g_cons g_name (g_cons g_name g_nil))))) ?_
  refine q_asg (d := .d (.list [bdD (bd1 x0 x1 f0 f1)])) (e_lcW (es := [bdD (bd1 x0 x1 f0 f1)]) (iw_zt (xs := [bdD (bd1 p0 p1 v0 v1)]) (ys := [vcd f0 f1]) (p_cons (e_var rfl) (p_cons (e_var rfl) a_nil)) rfl) rfl (show 1 ≤ 100000 by decide) fun i y hi hy => ?_) ?_
  · obtain rfl : i = 0 := Nat.lt_one_iff.mp hi
    obtain rfl := Option.some.inj hy
    refine (show ∃ ρ', GW K _ _ (PyData.tuple [PyData.tuple [.int 3, .tuple [fr p0, fr p1], vcd (1, 1) (1, 1), .int 2, fr (0, 1), vcd v0 v1], vcd f0 f1]) _ ρ' ∧ _ from ?_)
    refine ⟨_, w_tup rfl (w_cons (w_tup rfl (w_cons (w_name (by decide)) (w_cons (w_name (by decide)) (w_cons (w_name (by decide)) (w_cons (w_name (by decide)) (w_cons (w_name (by decide)) (w_cons (w_name (by decide)) w_nil))))))) (w_cons (w_name (by decide)) w_nil)), fun I' => ?_⟩
    simp only [wipeR, List.set_cons_zero, List.set_cons_succ]
    refine (show PL.E K _ _ I' (.d (.tuple [.int 3, .tuple [fr x0, fr x1], vcd (1, 1) (1, 1), .int 2, fr (0, 1), vcd f0 f1])) I' from ?_)
    exact p_tup (ds := [.i 3, .t [fr x0, fr x1], .d (vcd (1, 1) (1, 1)), .i 2, .d (fr (0, 1)), .d (vcd f0 f1)]) (p_cons (e_var rfl) (p_cons (p_call (R := RVec2 plusM) (ds := [.t [fr p0, fr p1], .t [fr f0, fr f1]]) (p_cons (e_var rfl) (p_cons (e_var rfl) a_nil)) rv) (p_cons (e_var rfl) (p_cons (e_var rfl) (p_cons (e_var rfl) (p_cons (e_var rfl) a_nil)))))) (.cons (.cons (.cons (.cons (.cons (.cons .nil)))))) (show 6 ≤ 100000 by decide)
  exact p_ret (p_tup (ds := [.t [bdD (bd1 x0 x1 f0 f1)], .t [], .d (vcd u0 u1)]) (p_cons (e_tupOf (p_cons (e_var rfl) a_nil)) (p_cons (e_var rfl) (p_cons (e_var rfl) a_nil))) (.cons (.cons (.cons .nil))) (show 3 ≤ 100000 by decide))
theorem fok_law_plus (Tp : Top K mg base) : FnOk P w K mg base CX0 3 Tp.f_law_plus Tp.d_law_plus ["a", "b"] (spP K (RPlus lplus)) := by
  have G_law_f := fok_law_f (P := P) (w := w) (base := base) Tp
  refine Tp.F_law_plus.ok sc_law_plus (fun vs H Q E h => len_P (fun _ _ z => z.len) h) (fun cdv A outer s H vs Q E hr h => ?_)
  refine ⟨_, (pss_one (ps_ret (pe_call G_law_f (hr.mono (by decide)) (by rfl) Tp.g_law_f Tp.F_law_f.kp Tp.b_law_f .nil pass0 (pa_cons (pe_op op_add (pe_op op_mulW (pe_ix (r := rIxT K) ix_tup (pv 0) pe_int (fun _ _ => rfl)) (pe_ix (r := rIxT K) ix_tup (pv 1) pe_int (fun _ _ => rfl))) (pe_op op_mulW (pe_ix (r := rIxT K) ix_tup (pv 1) pe_int (fun _ _ => rfl)) (pe_ix (r := rIxT K) ix_tup (pv 0) pe_int (fun _ _ => rfl)))) (pa_cons (pe_op op_mulW (pe_ix (r := rIxT K) ix_tup (pv 0) pe_int (fun _ _ => rfl)) (pe_ix (r := rIxT K) ix_tup (pv 1) pe_int (fun _ _ => rfl))) pa_nil))))), body_P ?_ h⟩
  refine fun ds d r I => ?_
  obtain ⟨a, b, rfl, ha, hb, rfl⟩ := r
  walk_at "norm"
  have pa := ha.nrm.1
  have pb := hb.nrm.1
  
  have na : a.2 ≠ 0 := by omega
  have nb : b.2 ≠ 0 := by omega
  have n2 : a.2 * b.2 ≠ 0 := Int.mul_ne_zero na nb
  refine p_ret (p_call (R := RF) (ds := [.i (a.1 * b.2 + b.1 * a.2), .i (a.2 * b.2)]) ?_ (RF.mk (m := 8001) (n := 8000) n2 (sz_add (m := 8000) (sz_mul ha.sz.1 hb.sz.2) (sz_mul hb.sz.1 ha.sz.2)) (sz_mul ha.sz.2 hb.sz.2) (by decide) (by decide)))
  walk_at "ev"
  all_goals first | exact mulW ha.sz.1 hb.sz.1 (by decide) | exact mulW ha.sz.1 hb.sz.2 (by decide) | exact mulW hb.sz.1 ha.sz.2 (by decide) | exact mulW ha.sz.2 hb.sz.2 (by decide)
theorem fok_law_minus (Tp : Top K mg base) : FnOk P w K mg base CX0 3 Tp.f_law_minus Tp.d_law_minus ["a", "b"] (spP K (RPlus lminus)) := by
  have G_law_f := fok_law_f (P := P) (w := w) (base := base) Tp
  refine Tp.F_law_minus.ok sc_law_minus (fun vs H Q E h => len_P (fun _ _ z => z.len) h) (fun cdv A outer s H vs Q E hr h => ?_)
  refine ⟨_, (pss_one (ps_ret (pe_call G_law_f (hr.mono (by decide)) (by rfl) Tp.g_law_f Tp.F_law_f.kp Tp.b_law_f .nil pass0 (pa_cons (pe_op op_sub (pe_op op_mulW (pe_ix (r := rIxT K) ix_tup (pv 0) pe_int (fun _ _ => rfl)) (pe_ix (r := rIxT K) ix_tup (pv 1) pe_int (fun _ _ => rfl))) (pe_op op_mulW (pe_ix (r := rIxT K) ix_tup (pv 1) pe_int (fun _ _ => rfl)) (pe_ix (r := rIxT K) ix_tup (pv 0) pe_int (fun _ _ => rfl)))) (pa_cons (pe_op op_mulW (pe_ix (r := rIxT K) ix_tup (pv 0) pe_int (fun _ _ => rfl)) (pe_ix (r := rIxT K) ix_tup (pv 1) pe_int (fun _ _ => rfl))) pa_nil))))), body_P ?_ h⟩
  refine fun ds d r I => ?_
  obtain ⟨a, b, rfl, ha, hb, rfl⟩ := r
  walk_at "norm"
  have pa := ha.nrm.1
  have pb := hb.nrm.1
  
  have na : a.2 ≠ 0 := by omega
  have nb : b.2 ≠ 0 := by omega
  have n2 : a.2 * b.2 ≠ 0 := Int.mul_ne_zero na nb
  refine p_ret (p_call (R := RF) (ds := [.i (a.1 * b.2 - b.1 * a.2), .i (a.2 * b.2)]) ?_ (RF.mk (m := 8001) (n := 8000) n2 (sz_sub (m := 8000) (sz_mul ha.sz.1 hb.sz.2) (sz_mul hb.sz.1 ha.sz.2)) (sz_mul ha.sz.2 hb.sz.2) (by decide) (by decide)))
  walk_at "ev"
  all_goals first | exact mulW ha.sz.1 hb.sz.1 (by decide) | exact mulW ha.sz.1 hb.sz.2 (by decide) | exact mulW hb.sz.1 ha.sz.2 (by decide) | exact mulW ha.sz.2 hb.sz.2 (by decide)
theorem fok_law_part (Tp : Top K mg base) : FnOk P w K mg base CX0 3 Tp.f_law_part Tp.d_law_part ["d", "most"] (spW K RPart) := by
  have G_law_f := fok_law_f (P := P) (w := w) (base := base) Tp
  have G_law_signed := fok_law_signed (P := P) (w := w) (base := base) Tp
  have G_law_take := fok_law_take (P := P) (w := w) (base := base) Tp
  refine Tp.F_law_part.ok sc_law_part (fun vs H Q E h => len_W (fun _ _ _ _ ⟨_, e, _⟩ => by rw [e]; rfl) h) (fun cdv A outer s H vs Q E hr h => ?_)
  refine ⟨_, (pss_one (ps_ret (pe_call G_law_f (hr.mono (by decide)) (by rfl) Tp.g_law_f Tp.F_law_f.kp Tp.b_law_f .nil pass0 (pa_cons (pe_call G_law_signed (hr.mono (by decide)) (by rfl) Tp.g_law_signed Tp.F_law_signed.kp Tp.b_law_signed .nil pass0 (pa_cons (pv 0) (pa_cons (pe_op op_mulW (pv 1) pe_int) pa_nil))) (pa_cons (pe_op op_add pe_int (pe_call G_law_take (hr.mono (by decide)) (by rfl) Tp.g_law_take Tp.F_law_take.kp Tp.b_law_take .nil pass0 (pa_cons (pv 0) (pa_cons pe_int pa_nil)))) pa_nil))))), body_W ?_ h⟩
  refine fun ds C d C' r p J hf => ?_
  obtain ⟨m, rfl, ok, hm, hz, rfl, rfl⟩ := r
  walk_at "norm"
  have z2 : (m * 2).natAbs < 2 ^ 7002 := sz_mul (n := 2) hz (by decide)
  obtain ⟨o1, b1, b2⟩ := take_ok (C := C) (m := 2 * (m * 2) + 1) ok (by omega)
  obtain ⟨o2, b3, b4⟩ := take_ok (C := (take C (2 * (m * 2) + 1)).2) (m := 3) o1 (by omega)
  refine s_ret (e_call (R := RF) (a_cons (e_draw (R := RSigned) (ds := [.i (m * 2)]) (C := C) (p_cons (e_var rfl) (p_cons (p_mul (e_var rfl) e_int (mulW (m := 7000) (n := 2) hz (by decide) (by decide))) a_nil)) ⟨_, rfl, ok, by omega, sz_le z2 (by decide), rfl, rfl⟩ hf)
    (a_cons (e_add e_int (e_draw (R := RTake) (ds := [.i 3]) (p_cons (e_var rfl) (p_cons e_int a_nil)) ⟨_, rfl, o1, by decide, Nat.lt_of_lt_of_le (show (3 : Int).natAbs < 2 ^ 2 by decide) (Nat.pow_le_pow_right (by decide) (by decide)), rfl, rfl⟩ hf)) a_nil)) ?_)
  refine RF.mk (m := 7010) (n := 7010) (by omega) ?_ ?_ (by decide) (by decide)
  · have : (2 : Nat) ^ 7010 = 2 ^ 7002 * 256 := by decide +kernel
    omega
  · refine Nat.lt_of_lt_of_le (show _ < 2 ^ 3 by omega) (Nat.pow_le_pow_right (by decide) (by decide))
theorem fok_check_overlaps (Tp : Top K mg base) : FnOk P w K mg base (L2.CX P w) 4 Tp.f_check_overlaps Tp.d_check_overlaps ["bodies"] (spXT K Tp.tabs (ROvl Tp.c_OverlapError)) := by
  have G_ends_of := fok_ends_of (P := P) (w := w) (base := base) Tp
  have G_box_of_body := fok_box_of_body (P := P) (w := w) (base := base) Tp
  have G_ends_overlap := fok_ends_overlap (P := P) (w := w) (base := base) Tp
  refine Tp.F_check_overlaps.okX sc_check_overlaps (fun vs H Q E h => len_X (fun _ _ ⟨_, e, _⟩ => by rw [e]; rfl) h) (fun cdv A outer s H vs Q E hr h => ?_)
  refine ⟨_, (pss_cons (ps_setLc (i := 1) (own := [("body", 5)]) (g := gName 5) (tt := tYes) rfl sc_check_overlaps.nd rfl rfl (sw_true rfl rfl rfl rfl) (pi_tup (pv 0)) (blkOk_by (N := ["bodies", "ends", "at", "one", "other", "body"]) (sc := defScope s_check_overlaps) (by decide +kernel)) (fun _ _ _ _ _ => pg_name (i := 5) sc_check_overlaps.nd rfl (Or.inl rfl)) (fun _ _ _ _ _ => pts_nil) (fun _ _ _ _ _ => (pe_call G_ends_of (hr.mono (by decide)) (by rfl) Tp.g_ends_of Tp.F_ends_of.kp Tp.b_ends_of .nil pass0 (pa_cons (pe_call G_box_of_body (hr.mono (by decide)) (by rfl) Tp.g_box_of_body Tp.F_box_of_body.kp Tp.b_box_of_body .nil pass0 (pa_cons (pv 5) pa_nil)) pa_nil))))
      (pss_one (ps_for (passes_of rfl) rfl (pi_enum (by rfl) Tp.n_enumerate (pa_cons (pv 1) pa_nil)) (pg_tup rfl (pgs_cons (pg_name (i := 2) sc_check_overlaps.nd rfl (.inl rfl)) (pgs_cons (pg_name (i := 3) sc_check_overlaps.nd rfl (.inl rfl)) pgs_nil))) (pss_one (ps_for (passes_of rfl) rfl (pi_list (pe_slice (r := rSlL K) sl_list (pv 1) (po_some (pe_op op_add (pv 2) pe_int)) po_none)) (pg_name (i := 4) sc_check_overlaps.nd rfl (.inl rfl)) (pss_one (ps_if (pt_val (pe_call G_ends_overlap (hr.mono (by decide)) (by rfl) Tp.g_ends_overlap Tp.F_ends_overlap.kp Tp.b_ends_overlap .nil pass0 (pa_cons (pv 3) (pa_cons (pv 4) pa_nil)))) (pss_one (ps_raise rfl (takes_of rfl rfl rfl rfl) (pmk_own PySem.F.excBase_ValueError Tp.xc_OverlapError Tp.gc_OverlapError Tp.kc_OverlapError (raises_own Tp.bc_OverlapError Tp.tc_OverlapError) rfl))) pss_nil))))))), body_XNT ?_ h⟩
  refine fun ds r hr I hT hx => ?_
  obtain ⟨bs, rfl, hbs, hlen, hr⟩ := hr
  walk_at "norm"
  rcases hr with ⟨h0, rfl⟩ | ⟨h0, rfl⟩
  · refine .inl ⟨rfl, [some (.t (bs.map bdD)), some (.d (.list (bs.map fun z => endD z.bx))), none, none, none, none], q_asg (d := .d (.list (bs.map fun z => endD z.bx))) (e_lcW (es := bs.map fun z => endD z.bx) (iw_t (e_var rfl)) (by rw [List.length_map, List.length_map]) (by rw [List.length_map]; exact hlen) fun i y hi hy => ?_) ?_⟩
    · skip
      obtain ⟨z, hz, rfl⟩ := getElem?_of_map hy
      have hzb := hbs z (List.mem_of_getElem? hz)
      rw [at0_map hz]
      exact ⟨_, w_name List.mem_cons_self, fun I' => p_call (R := REnds) (ds := [.d (bxd z.bx)]) (p_cons (p_call (R := RBoxOf) (ds := [.d (bdD z)]) (by walk_at "ev") ⟨z, rfl, rfl⟩) a_nil) ⟨z.bx, rfl, hzb.bx.p0.mono (by decide), hzb.bx.p1.mono (by decide), hzb.bx.s0.mono (by decide), hzb.bx.s1.mono (by decide), rfl⟩⟩
    refine s_loopR1 (α := Unit) (bs := bs) (f := fun i z => .tuple [.int (i : Nat), endD z.bx]) (fun i rest _ => ovB (rest.map (·.bx)) = false ∧ bs.drop i = rest ∧ ∀ z ∈ rest, BdOk z) (fun _ => [some (.t (bs.map bdD)), some (.d (.list (bs.map fun z => endD z.bx))), none, none, none, none]) (fun _ => I) () ⟨h0, rfl, hbs⟩ (iw_e (p_cons (e_var rfl) a_nil)) (by rw [List.length_map]) (fun i z h => by rw [at0_map h]) rfl (fun i z rest _ hw => ?_) (fun _ i hw => s_next)
    obtain ⟨h1, hr, h3⟩ := hw
    have hz := h3 z List.mem_cons_self
    have h1 : ((rest.map (·.bx)).any (pairM lt0 z.bx) || ovB (rest.map (·.bx))) = false := h1
    rw [Bool.or_eq_false_iff, List.any_map] at h1
    replace hr : bs.drop (i + 1) = rest := by rw [← List.tail_drop, hr]; rfl
    refine ⟨_, (g_tup rfl (g_cons g_name (g_cons g_name g_nil))), .inl ⟨(), ⟨h1.2, hr, fun y hy => h3 y (List.mem_cons_of_mem _ hy)⟩, ?_⟩⟩
    refine s_lessN (ρ' := [some (.t (bs.map bdD)), some (.d (.list (bs.map fun z => endD z.bx))), some (.i (i : Nat)), some (.d (endD z.bx)), none, none]) ⟨.inr rfl, .inr rfl, .inl rfl, .inl rfl, .inr rfl, .inr rfl, trivial⟩ ?_
    refine s_loopR1 (α := Unit) (bs := rest) (f := fun _ y => endD y.bx) (fun _ r2 _ => (r2.any fun y => pairM lt0 z.bx y.bx) = false ∧ ∀ y ∈ r2, BdOk y) (fun _ => [some (.t (bs.map bdD)), some (.d (.list (bs.map fun z => endD z.bx))), some (.i (i : Nat)), some (.d (endD z.bx)), none, none]) (fun _ => I) () ⟨h1.1, fun y hy => h3 y (List.mem_cons_of_mem _ hy)⟩ (iw_ll (e_sliceFrom (j := i + 1) (e_var rfl) (p_add (i := (i : Nat)) (j := 1) (e_var rfl) e_int))) (by rw [List.length_drop, List.length_map, ← hr, List.length_drop]) (fun j y h => by rw [← hr, List.getElem?_drop] at h; exact drop_at h) rfl (fun j y r2 _ hw2 => ?_) (fun _ j _ => s_next)
    have hy := hw2.2 y List.mem_cons_self
    have h4 : (pairM lt0 z.bx y.bx || r2.any fun y => pairM lt0 z.bx y.bx) = false := hw2.1
    rw [Bool.or_eq_false_iff] at h4
    refine ⟨_, g_name, .inl ⟨(), ⟨h4.2, fun y hy => hw2.2 y (List.mem_cons_of_mem _ hy)⟩, ?_⟩⟩
    refine s_lessN (ρ' := [some (.t (bs.map bdD)), some (.d (.list (bs.map fun z => endD z.bx))), some (.i (i : Nat)), some (.d (endD z.bx)), some (.d (endD y.bx)), none]) ⟨.inr rfl, .inr rfl, .inr rfl, .inr rfl, .inl rfl, .inr rfl, trivial⟩ ?_
    exact q_ifF (t_B (p_call (R := RPairs lt0) (ds := [.d (endD z.bx), .d (endD y.bx)]) (by walk_at "ev") ⟨z.bx, y.bx, rfl, hz.bx.bz, hy.bx.bz, rfl⟩)) h4.1 s_next
  · refine .inr ⟨_, rfl, fun k => s_any (q_asg (d := .d (.list (bs.map fun z => endD z.bx))) (e_lcW (es := bs.map fun z => endD z.bx) (iw_t (e_var rfl)) (by rw [List.length_map, List.length_map]) (by rw [List.length_map]; exact hlen) fun i y hi hy => ?_) ?_)⟩
    · skip
      obtain ⟨z, hz, rfl⟩ := getElem?_of_map hy
      have hzb := hbs z (List.mem_of_getElem? hz)
      rw [at0_map hz]
      exact ⟨_, w_name List.mem_cons_self, fun I' => p_call (R := REnds) (ds := [.d (bxd z.bx)]) (p_cons (p_call (R := RBoxOf) (ds := [.d (bdD z)]) (by walk_at "ev") ⟨z, rfl, rfl⟩) a_nil) ⟨z.bx, rfl, hzb.bx.p0.mono (by decide), hzb.bx.p1.mono (by decide), hzb.bx.s0.mono (by decide), hzb.bx.s1.mono (by decide), rfl⟩⟩
    refine s_loopR1 (α := Unit) (bs := bs) (f := fun i z => .tuple [.int (i : Nat), endD z.bx]) (fun i rest _ => ovB (rest.map (·.bx)) = true ∧ bs.drop i = rest ∧ ∀ z ∈ rest, BdOk z) (fun _ => [some (.t (bs.map bdD)), some (.d (.list (bs.map fun z => endD z.bx))), none, none, none, none]) (fun _ => I) () ⟨h0, rfl, hbs⟩ (iw_e (p_cons (e_var rfl) a_nil)) (by rw [List.length_map]) (fun i z h => by rw [at0_map h]) rfl (fun i z rest _ hw => ?_) (fun _ i hw => (by cases hw.1))
    obtain ⟨h1, hr, h3⟩ := hw
    have hz := h3 z List.mem_cons_self
    have h1 : ((rest.map (·.bx)).any (pairM lt0 z.bx) || ovB (rest.map (·.bx))) = true := h1
    rw [List.any_map] at h1
    replace hr : bs.drop (i + 1) = rest := by rw [← List.tail_drop, hr]; rfl
    by_cases c : (rest.any fun y => pairM lt0 z.bx y.bx) = true
    · refine ⟨_, (g_tup rfl (g_cons g_name (g_cons g_name g_nil))), .inr ⟨ret_fin, ?_⟩⟩
      refine s_lessN2 (ρ' := [some (.t (bs.map bdD)), some (.d (.list (bs.map fun z => endD z.bx))), some (.i (i : Nat)), some (.d (endD z.bx)), none, none]) rfl ?_
      refine s_loopR1 (α := Unit) (bs := rest) (f := fun _ y => endD y.bx) (fun _ r2 _ => (r2.any fun y => pairM lt0 z.bx y.bx) = true ∧ ∀ y ∈ r2, BdOk y) (fun _ => [some (.t (bs.map bdD)), some (.d (.list (bs.map fun z => endD z.bx))), some (.i (i : Nat)), some (.d (endD z.bx)), none, none]) (fun _ => I) () ⟨c, fun y hy => h3 y (List.mem_cons_of_mem _ hy)⟩ (iw_ll (e_sliceFrom (j := i + 1) (e_var rfl) (p_add (i := (i : Nat)) (j := 1) (e_var rfl) e_int))) (by rw [List.length_drop, List.length_map, ← hr, List.length_drop]) (fun j y h => by rw [← hr, List.getElem?_drop] at h; exact drop_at h) rfl (fun j y r2 _ hw2 => ?_) (fun _ j hw => by cases hw.1)
      have hy := hw2.2 y List.mem_cons_self
      have h4 : (pairM lt0 z.bx y.bx || r2.any fun y => pairM lt0 z.bx y.bx) = true := hw2.1
      by_cases c2 : pairM lt0 z.bx y.bx = true
      · exact ⟨_, g_name, .inr ⟨ret_fin, q_ifT (t_B (p_call (R := RPairs lt0) (ds := [.d (endD z.bx), .d (endD y.bx)]) (by walk_at "ev") ⟨z.bx, y.bx, rfl, hz.bx.bz, hy.bx.bz, rfl⟩)) c2 (s_raise' fun G H σ D gh io => hx _ rfl G H io)⟩⟩
      · have c2 := Bool.eq_false_iff.mpr c2
        rw [c2, Bool.false_or] at h4
        refine ⟨_, g_name, .inl ⟨(), ⟨h4, fun y hy => hw2.2 y (List.mem_cons_of_mem _ hy)⟩, ?_⟩⟩
        refine s_lessN (ρ' := [some (.t (bs.map bdD)), some (.d (.list (bs.map fun z => endD z.bx))), some (.i (i : Nat)), some (.d (endD z.bx)), some (.d (endD y.bx)), none]) ⟨.inr rfl, .inr rfl, .inr rfl, .inr rfl, .inl rfl, .inr rfl, trivial⟩ ?_
        exact q_ifF (t_B (p_call (R := RPairs lt0) (ds := [.d (endD z.bx), .d (endD y.bx)]) (by walk_at "ev") ⟨z.bx, y.bx, rfl, hz.bx.bz, hy.bx.bz, rfl⟩)) c2 s_next
    · have c := Bool.eq_false_iff.mpr c
      have h1 : ((rest.any fun y => pairM lt0 z.bx y.bx) || ovB (rest.map (·.bx))) = true := h1
      rw [c, Bool.false_or] at h1
      refine ⟨_, (g_tup rfl (g_cons g_name (g_cons g_name g_nil))), .inl ⟨(), ⟨h1, hr, fun y hy => h3 y (List.mem_cons_of_mem _ hy)⟩, ?_⟩⟩
      refine s_lessN (ρ' := [some (.t (bs.map bdD)), some (.d (.list (bs.map fun z => endD z.bx))), some (.i (i : Nat)), some (.d (endD z.bx)), none, none]) ⟨.inr rfl, .inr rfl, .inl rfl, .inl rfl, .inr rfl, .inr rfl, trivial⟩ ?_
      refine s_loopR1 (α := Unit) (bs := rest) (f := fun _ y => endD y.bx) (fun _ r2 _ => (r2.any fun y => pairM lt0 z.bx y.bx) = false ∧ ∀ y ∈ r2, BdOk y) (fun _ => [some (.t (bs.map bdD)), some (.d (.list (bs.map fun z => endD z.bx))), some (.i (i : Nat)), some (.d (endD z.bx)), none, none]) (fun _ => I) () ⟨c, fun y hy => h3 y (List.mem_cons_of_mem _ hy)⟩ (iw_ll (e_sliceFrom (j := i + 1) (e_var rfl) (p_add (i := (i : Nat)) (j := 1) (e_var rfl) e_int))) (by rw [List.length_drop, List.length_map, ← hr, List.length_drop]) (fun j y h => by rw [← hr, List.getElem?_drop] at h; exact drop_at h) rfl (fun j y r2 _ hw2 => ?_) (fun _ j _ => s_next)
      have hy := hw2.2 y List.mem_cons_self
      have h4 : (pairM lt0 z.bx y.bx || r2.any fun y => pairM lt0 z.bx y.bx) = false := hw2.1
      rw [Bool.or_eq_false_iff] at h4
      refine ⟨_, g_name, .inl ⟨(), ⟨h4.2, fun y hy => hw2.2 y (List.mem_cons_of_mem _ hy)⟩, ?_⟩⟩
      refine s_lessN (ρ' := [some (.t (bs.map bdD)), some (.d (.list (bs.map fun z => endD z.bx))), some (.i (i : Nat)), some (.d (endD z.bx)), some (.d (endD y.bx)), none]) ⟨.inr rfl, .inr rfl, .inr rfl, .inr rfl, .inl rfl, .inr rfl, trivial⟩ ?_
      exact q_ifF (t_B (p_call (R := RPairs lt0) (ds := [.d (endD z.bx), .d (endD y.bx)]) (by walk_at "ev") ⟨z.bx, y.bx, rfl, hz.bx.bz, hy.bx.bz, rfl⟩)) h4.1 s_next
theorem fok_check_joint (Tp : Top K mg base) : FnOk P w K mg base (L2.CX P w) 4 Tp.f_check_joint Tp.d_check_joint ["places", "joint"] (spX K (RJoint Tp.c_JointError)) := by
  have G_joint_way := fok_joint_way (P := P) (w := w) (base := base) Tp
  have G_compare := fok_compare (P := P) (w := w) (base := base) Tp
  refine Tp.F_check_joint.okX sc_check_joint (fun vs H Q E h => len_X (fun _ _ ⟨_, _, e, _⟩ => by rw [e]; rfl) h) (fun cdv A outer s H vs Q E hr h => ?_)
  refine ⟨_, (pss_cons (ps_asg (pv 1) (pg_tup rfl (pgs_cons (pg_name (i := 2) sc_check_joint.nd rfl (.inl rfl)) (pgs_cons (pg_name (i := 3) sc_check_joint.nd rfl (.inl rfl)) (pgs_cons (pg_name (i := 4) sc_check_joint.nd rfl (.inl rfl)) (pgs_cons (pg_name (i := 5) sc_check_joint.nd rfl (.inl rfl)) (pgs_cons (pg_name (i := 6) sc_check_joint.nd rfl (.inl rfl)) pgs_nil)))))))
      (pss_cons (ps_if (PW.pt (pw_or (pt_cmpR op_eq (pv 2) (pv 3) (nomark _)) (pw_or (pt_cmp (pc_dnotin (hu_of hr) (pv 2) (pv 0)) rfl) (pw_or1 (pt_cmp (pc_dnotin (hu_of hr) (pv 3) (pv 0)) rfl))))) (pss_one (ps_raise rfl (takes_of rfl rfl rfl rfl) (pmk_own PySem.F.excBase_ValueError Tp.xc_JointError Tp.gc_JointError Tp.kc_JointError (raises_own Tp.bc_JointError Tp.tc_JointError) rfl))) pss_nil)
      (pss_cons (ps_if (PW.pt (pw_or (pt_cmpR op_notIn_seq (pv 4) (pe_tup (pa_cons pe_int (pa_cons pe_int pa_nil))) rfl) (pw_or1 (pt_cmpR op_gt (pe_call G_compare (hr.mono (by decide)) (by rfl) Tp.g_compare Tp.F_compare.kp Tp.b_compare .nil pass0 (pa_cons (pv 5) (pa_cons (pv 6) pa_nil))) pe_int (nomark _))))) (pss_one (ps_raise rfl (takes_of rfl rfl rfl rfl) (pmk_own PySem.F.excBase_ValueError Tp.xc_JointError Tp.gc_JointError Tp.kc_JointError (raises_own Tp.bc_JointError Tp.tc_JointError) rfl))) pss_nil)
      (pss_cons (ps_set (i := 7) sc_check_joint.nd rfl (.inl rfl) (pe_call G_joint_way (hr.mono (by decide)) (by rfl) Tp.g_joint_way Tp.F_joint_way.kp Tp.b_joint_way .nil pass0 (pa_cons (pv 0) (pa_cons (pv 1) pa_nil))))
      (pss_one (ps_if (PW.pt (pw_or (pt_cmpR op_lt (pe_call G_compare (hr.mono (by decide)) (by rfl) Tp.g_compare Tp.F_compare.kp Tp.b_compare .nil pass0 (pa_cons (pv 7) (pa_cons (pv 5) pa_nil))) pe_int (nomark _)) (pw_or1 (pt_cmpR op_gt (pe_call G_compare (hr.mono (by decide)) (by rfl) Tp.g_compare Tp.F_compare.kp Tp.b_compare .nil pass0 (pa_cons (pv 7) (pa_cons (pv 6) pa_nil))) pe_int (nomark _))))) (pss_one (ps_raise rfl (takes_of rfl rfl rfl rfl) (pmk_own PySem.F.excBase_ValueError Tp.xc_JointError Tp.gc_JointError Tp.kc_JointError (raises_own Tp.bc_JointError Tp.tc_JointError) rfl))) pss_nil)))))), body_XN ?_ h⟩
  refine fun ds r hr I hx => ?_
  obtain ⟨bs, ⟨a, b, k, lo, hi⟩, rfl, hbs, hj, hr⟩ := hr
  walk_at "norm"
  have e1 : (decide (a = b) || (!(valD (plcM bs) (.inl a)).isSome || !(valD (plcM bs) (.inl b)).isSome)) = (decide (a = b) || (!(fnd bs a).isSome || !(fnd bs b).isSome)) := by rw [plc_get, plc_get, Option.isSome_map, Option.isSome_map]
  rcases hr with ⟨h0, rfl⟩ | ⟨h0, rfl⟩
  · obtain ⟨x, y, fa, fb, h1, h2, h3⟩ := jbad_no h0
    have fa : fnd bs a = some x := fa
    have fb : fnd bs b = some y := fb
    have hX := hbs x (fnd_mem fa)
    have hY := hbs y (fnd_mem fb)
    have hW : PL.Ok 4000 (wayM x y k) := way_ok hX hY
    have hR : RWay [.k (plcM bs), .d (jtD ⟨a, b, k, lo, hi⟩)] (.d (fr (wayM x y k))) := ⟨bs, ⟨a, b, k, lo, hi⟩, x, y, rfl, fa, fb, h2.1, hX, hY, rfl⟩
    have h3 : (decide (cmpM (wayM x y k) lo < 0) || decide (0 < cmpM (wayM x y k) hi)) = false := h3
    have h2 := h2.2
    generalize wayM x y k = W at *
    refine .inl ⟨rfl, [some (.k (plcM bs)), some (.d (jtD ⟨a, b, k, lo, hi⟩)), some (.i a), some (.i b), some (.i k), some (.d (fr lo)), some (.d (fr hi)), some (.d (fr W))], s_seq (s_asgG (e_var rfl) (g_tup rfl (g_cons g_name (g_cons g_name (g_cons g_name (g_cons g_name (g_cons g_name g_nil))))))) ?_⟩
    refine q_skip (t_or (p_test (p_eqI (i := a) (j := b) (e_var rfl) (e_var rfl))) fun _ => t_or (t_B (e_kNot (n := a) (e_var rfl) (e_var rfl))) fun _ => t_B (e_kNot (n := b) (e_var rfl) (e_var rfl))) (by rw [e1, fa, fb, decide_eq_false h1]; rfl) ?_
    refine q_skip (t_or (p_test (e_axis (n := k) (e_var rfl) (p_tup2 (by walk_at "ev")))) fun _ => p_test (p_gt (i := cmpM lo hi) (j := 0) (p_call (R := RCmp) (ds := [.d (fr lo), .d (fr hi)]) (by walk_at "ev") ⟨_, _, rfl, hj.lo.mono (by decide), hj.hi.mono (by decide), rfl⟩) e_int)) h2 ?_
    refine q_asg (d := .d (fr W)) (p_call (R := RWay) (ds := [.k (plcM bs), .d (jtD ⟨a, b, k, lo, hi⟩)]) (by walk_at "ev") hR) ?_
    exact q_ifF (t_or (p_test (p_lt (i := cmpM W lo) (j := 0) (p_call (R := RCmp) (ds := [.d (fr W), .d (fr lo)]) (by walk_at "ev") ⟨_, _, rfl, hW, hj.lo.mono (by decide), rfl⟩) e_int)) fun _ => p_test (p_gt (i := cmpM W hi) (j := 0) (p_call (R := RCmp) (ds := [.d (fr W), .d (fr hi)]) (by walk_at "ev") ⟨_, _, rfl, hW, hj.hi.mono (by decide), rfl⟩) e_int)) h3 s_next
  · refine .inr ⟨_, rfl, fun kk => s_any (s_seq (s_asgG (e_var rfl) (g_tup rfl (g_cons g_name (g_cons g_name (g_cons g_name (g_cons g_name (g_cons g_name g_nil))))))) ?_)⟩
    cases fa : fnd bs a with
    | none => exact s_stopR ret_fin (q_ifT (t_or (p_test (p_eqI (i := a) (j := b) (e_var rfl) (e_var rfl))) fun _ => t_or (t_B (e_kNot (n := a) (e_var rfl) (e_var rfl))) fun _ => t_B (e_kNot (n := b) (e_var rfl) (e_var rfl))) (by rw [e1, fa]; simp) (s_raise' fun G H σ D gh io => hx _ rfl G H io))
    | some x =>
      cases fb : fnd bs b with
      | none => exact s_stopR ret_fin (q_ifT (t_or (p_test (p_eqI (i := a) (j := b) (e_var rfl) (e_var rfl))) fun _ => t_or (t_B (e_kNot (n := a) (e_var rfl) (e_var rfl))) fun _ => t_B (e_kNot (n := b) (e_var rfl) (e_var rfl))) (by rw [e1, fa, fb]; simp) (s_raise' fun G H σ D gh io => hx _ rfl G H io))
      | some y =>
        have h0 := jbad_yes fa fb h0
        by_cases c1 : a = b
        · exact s_stopR ret_fin (q_ifT (t_or (p_test (p_eqI (i := a) (j := b) (e_var rfl) (e_var rfl))) fun _ => t_or (t_B (e_kNot (n := a) (e_var rfl) (e_var rfl))) fun _ => t_B (e_kNot (n := b) (e_var rfl) (e_var rfl))) (by rw [decide_eq_true c1]; rfl) (s_raise' fun G H σ D gh io => hx _ rfl G H io))
        refine q_skip (t_or (p_test (p_eqI (i := a) (j := b) (e_var rfl) (e_var rfl))) fun _ => t_or (t_B (e_kNot (n := a) (e_var rfl) (e_var rfl))) fun _ => t_B (e_kNot (n := b) (e_var rfl) (e_var rfl))) (by rw [e1, fa, fb, decide_eq_false c1]; rfl) ?_
        rw [decide_eq_false c1, Bool.false_or] at h0
        by_cases c2 : (!(decide (k = 0) || decide (k = 1)) || decide (0 < cmpM lo hi)) = true
        · exact s_stopR ret_fin (q_ifT (t_or (p_test (e_axis (n := k) (e_var rfl) (p_tup2 (by walk_at "ev")))) fun _ => p_test (p_gt (i := cmpM lo hi) (j := 0) (p_call (R := RCmp) (ds := [.d (fr lo), .d (fr hi)]) (by walk_at "ev") ⟨_, _, rfl, hj.lo.mono (by decide), hj.hi.mono (by decide), rfl⟩) e_int)) c2 (s_raise' fun G H σ D gh io => hx _ rfl G H io))
        have c2 := Bool.eq_false_iff.mpr c2
        refine q_skip (t_or (p_test (e_axis (n := k) (e_var rfl) (p_tup2 (by walk_at "ev")))) fun _ => p_test (p_gt (i := cmpM lo hi) (j := 0) (p_call (R := RCmp) (ds := [.d (fr lo), .d (fr hi)]) (by walk_at "ev") ⟨_, _, rfl, hj.lo.mono (by decide), hj.hi.mono (by decide), rfl⟩) e_int)) c2 ?_
        rw [c2, Bool.false_or] at h0
        have hk : k = 0 ∨ k = 1 := by
          rw [Bool.or_eq_false_iff] at c2
          exact Classical.or_iff_not_imp_left.mpr (by simpa using c2.1)
        have hX := hbs x (fnd_mem fa)
        have hY := hbs y (fnd_mem fb)
        have hW : PL.Ok 4000 (wayM x y k) := way_ok hX hY
        have hR : RWay [.k (plcM bs), .d (jtD ⟨a, b, k, lo, hi⟩)] (.d (fr (wayM x y k))) := ⟨bs, ⟨a, b, k, lo, hi⟩, x, y, rfl, fa, fb, hk, hX, hY, rfl⟩
        generalize wayM x y k = W at *
        refine q_asg (d := .d (fr W)) (p_call (R := RWay) (ds := [.k (plcM bs), .d (jtD ⟨a, b, k, lo, hi⟩)]) (by walk_at "ev") hR) ?_
        exact q_ifT (t_or (p_test (p_lt (i := cmpM W lo) (j := 0) (p_call (R := RCmp) (ds := [.d (fr W), .d (fr lo)]) (by walk_at "ev") ⟨_, _, rfl, hW, hj.lo.mono (by decide), rfl⟩) e_int)) fun _ => p_test (p_gt (i := cmpM W hi) (j := 0) (p_call (R := RCmp) (ds := [.d (fr W), .d (fr hi)]) (by walk_at "ev") ⟨_, _, rfl, hW, hj.hi.mono (by decide), rfl⟩) e_int)) h0 (s_raise' fun G H σ D gh io => hx _ rfl G H io)
theorem fok_items_of (Tp : Top K mg base) : FnOk P w K mg base CX0 4 Tp.f_items_of Tp.d_items_of ["state", "pushes"] (spP K RItems) := by
  have G_ends_of := fok_ends_of (P := P) (w := w) (base := base) Tp
  have G_free_speed := fok_free_speed (P := P) (w := w) (base := base) Tp
  have G_box_of_body := fok_box_of_body (P := P) (w := w) (base := base) Tp
  refine Tp.F_items_of.ok sc_items_of (fun vs H Q E h => len_P (fun _ _ ⟨_, _, e, _⟩ => by rw [e]; rfl) h) (fun cdv A outer s H vs Q E hr h => ?_)
  refine ⟨_, (pss_cons (ps_asg (pv 0) (pg_tup rfl (pgs_cons (pg_name (i := 2) sc_items_of.nd rfl (.inl rfl)) (pgs_cons (pg_name (i := 3) sc_items_of.nd rfl (.inl rfl)) (pgs_cons (pg_name (i := 4) sc_items_of.nd rfl (.inr rfl)) pgs_nil)))))
      (pss_cons (ps_set (i := 5) sc_items_of.nd rfl (.inr rfl) (pe_callTy (cr_dictU (by rfl)) (by rfl) Tp.n_dict (by decide +kernel) (pa_cons (pv 1) pa_nil)))
      (pss_one (ps_ret (pe_lc (own := [("body", 6)]) (g := gName 6) (tt := tYes) rfl sc_items_of.nd (pi_tup (pv 2)) (blkOk_by (N := ["state", "pushes", "bodies", "_", "pull", "push_of", "body"]) (sc := defScope s_items_of) (by decide +kernel)) (fun _ _ _ _ _ => pg_name (i := 6) sc_items_of.nd rfl (Or.inl rfl)) (fun _ _ _ _ _ => pts_nil) (fun _ _ _ _ _ => (pe_tup (pa_cons (pv 6) (pa_cons (pe_call G_ends_of (hr.mono (by decide)) (by rfl) Tp.g_ends_of Tp.F_ends_of.kp Tp.b_ends_of .nil pass0 (pa_cons (pe_call G_box_of_body (hr.mono (by decide)) (by rfl) Tp.g_box_of_body Tp.F_box_of_body.kp Tp.b_box_of_body .nil pass0 (pa_cons (pv 6) pa_nil)) pa_nil)) (pa_cons (pe_call G_free_speed (hr.mono (by decide)) (by rfl) Tp.g_free_speed Tp.F_free_speed.kp Tp.b_free_speed .nil pass0 (pa_cons (pv 6) (pa_cons (pv 4) (pa_cons (pe_dget2 (hu_of hr) (pv 5) (pe_ix (r := rIxT K) ix_tup (pv 6) pe_int (fun _ _ => rfl)) (pe_glob (v := .ref Tp.k_STANDING) (by rfl) Tp.gk_STANDING rfl) ⟨rfl, rfl, rfl, rfl⟩) pa_nil)))) pa_nil)))))))))), body_P ?_ h⟩
  refine fun ds d r I => ?_
  obtain ⟨st, ps, rfl, hs, hp, rfl⟩ := r
  walk_at "norm"
  refine s_seq (s_asgG (e_var rfl) (g_tup rfl (g_cons g_name (g_cons g_name (g_cons g_name g_nil))))) ?_
  refine q_asg (d := .k ((kps ps).map prK)) (e_dictU (p_cons (e_is (e_var rfl) (by rw [pu_pr])) a_nil) (by rw [List.map_map]; exact hp.nd)) ?_
  refine p_ret (e_lcW (es := (st.bs.map (itM st ps)).map itD) (iw_t (e_var rfl)) (by rw [List.length_map, List.length_map, List.length_map]) (by rw [List.length_map]; exact Nat.le_trans hp.len (by decide)) fun i y hi hy => ?_)
  obtain ⟨z, hz, rfl⟩ := getElem?_of_map hy
  obtain ⟨b, hb, rfl⟩ : ∃ b, st.bs[i]? = some b ∧ itM st ps b = z := by
    rw [List.getElem?_map, Option.map_eq_some_iff] at hz
    exact hz
  rw [at0_map hb]
  have hm := List.mem_of_getElem? hb
  have hB := hs.bs b hm
  obtain ⟨q0, q1⟩ := push_ok hp.ps b.nm
  refine ⟨_, w_name List.mem_cons_self, fun I' => p_tup (ds := [.d (bdD b), .t [vcd b.bx.p0 (plusM b.bx.p0 b.bx.s0), vcd b.bx.p1 (plusM b.bx.p1 b.bx.s1)], .d (vcd (freeOf st ps b).1 (freeOf st ps b).2)]) (p_cons (e_var rfl) (p_cons (p_call (R := REnds) (ds := [.d (bxd b.bx)]) (p_cons (p_call (R := RBoxOf) (ds := [.d (bdD b)]) (by walk_at "ev") ⟨b, rfl, rfl⟩) a_nil) ⟨b.bx, rfl, hB.bx.p0.mono (by decide), hB.bx.p1.mono (by decide), hB.bx.s0.mono (by decide), hB.bx.s1.mono (by decide), rfl⟩) (p_cons (p_call (R := RFree) (ds := [.d (bdD b), .d (vcd st.u0 st.u1), .d (vcd (pushOf ps b.nm).1 (pushOf ps b.nm).2)]) (p_cons (e_var rfl) (p_cons (e_var rfl) (p_cons (e_kGetOr (n := b.nm) (y := vcd (0, 1) (0, 1)) (e_var rfl) (p_i0 (e_var rfl)) (e_glob Tp.dk_STANDING) push_get) a_nil))) ⟨b, _, _, _, _, rfl, hB.v0, hB.v1, hs.u0, hs.u1, q0, q1, hp.ms b hm, rfl⟩) a_nil))) (.cons (.cons (.cons .nil))) (show 3 ≤ 100000 by decide)⟩
theorem fok_gap_of_items (Tp : Top K mg base) : FnOk P w K mg base CX0 4 Tp.f_gap_of_items Tp.d_gap_of_items ["one", "other", "axis"] (spP K RGapI) := by
  have G_gap_of_ends := fok_gap_of_ends (P := P) (w := w) (base := base) Tp
  refine Tp.F_gap_of_items.ok sc_gap_of_items (fun vs H Q E h => len_P (fun _ _ ⟨_, _, _, e, _⟩ => by rw [e]; rfl) h) (fun cdv A outer s H vs Q E hr h => ?_)
  refine ⟨_, (pss_one (ps_ret (pe_call G_gap_of_ends (hr.mono (by decide)) (by rfl) Tp.g_gap_of_ends Tp.F_gap_of_ends.kp Tp.b_gap_of_ends .nil pass0 (pa_cons (pe_ix (r := rIxT K) ix_tup (pe_ix (r := rIxT K) ix_tup (pv 0) pe_int (fun _ _ => rfl)) (pv 2) (fun _ _ => rfl)) (pa_cons (pe_ix (r := rIxT K) ix_tup (pe_ix (r := rIxT K) ix_tup (pv 1) pe_int (fun _ _ => rfl)) (pv 2) (fun _ _ => rfl)) pa_nil))))), body_P ?_ h⟩
  refine fun ds d r I => ?_
  obtain ⟨x, y, k, rfl, hx, hy, hk, rfl⟩ := r
  walk_at "norm"
  
  rw [gapX_lo hk]
  exact p_ret (p_call (R := RGapE) (ds := [.d (vcd (loB x.b.bx k) (hiB x.b.bx k)), .d (vcd (loB y.b.bx k) (hiB y.b.bx k))]) (p_cons (p_ixT (ds := [vcd x.b.bx.p0 (plusM x.b.bx.p0 x.b.bx.s0), vcd x.b.bx.p1 (plusM x.b.bx.p1 x.b.bx.s1)]) (i := k) (e_is (p_i1 (e_var rfl)) (by rw [hx.e])) (e_var rfl) (end_at hk)) (p_cons (p_ixT (ds := [vcd y.b.bx.p0 (plusM y.b.bx.p0 y.b.bx.s0), vcd y.b.bx.p1 (plusM y.b.bx.p1 y.b.bx.s1)]) (i := k) (e_is (p_i1 (e_var rfl)) (by rw [hy.e])) (e_var rfl) (end_at hk)) a_nil)) ⟨_, _, _, _, rfl, (hx.lo k).mono (by decide), (hx.hi k).mono (by decide), (hy.lo k).mono (by decide), (hy.hi k).mono (by decide), rfl⟩)
theorem fok_rows_of_joints (Tp : Top K mg base) : FnOk P w K mg base CX0 4 Tp.f_rows_of_joints Tp.d_rows_of_joints ["state"] (spT K Tp.tabs RRowsJ) := by
  have G_places_of := fok_places_of (P := P) (w := w) (base := base) Tp
  have G_joint_way := fok_joint_way (P := P) (w := w) (base := base) Tp
  have G_parts_of := fok_parts_of (P := P) (w := w) (base := base) Tp
  have G_is_moving := fok_is_moving (P := P) (w := w) (base := base) Tp
  have G_minus := fok_minus (P := P) (w := w) (base := base) Tp
  refine Tp.F_rows_of_joints.ok sc_rows_of_joints (fun vs H Q E h => len_P (fun _ _ ⟨_, e, _⟩ => by rw [e]; rfl) h) (fun cdv A outer s H vs Q E hr h => ?_)
  refine ⟨_, (pss_cons (ps_asg (pv 0) (pg_tup rfl (pgs_cons (pg_name (i := 1) sc_rows_of_joints.nd rfl (.inl rfl)) (pgs_cons (pg_name (i := 2) sc_rows_of_joints.nd rfl (.inl rfl)) (pgs_cons (pg_name (i := 3) sc_rows_of_joints.nd rfl (.inl rfl)) pgs_nil)))))
      (pss_cons (PX.ps_setDc (i := 4) (own := [("body", 17)]) (tt := tYes) rfl sc_rows_of_joints.nd rfl rfl (PX.sw_trueD rfl rfl rfl rfl) (pi_tup (pv 1)) (blkOk_by (N := ["state", "bodies", "joints", "_", "named", "places", "rows", "number", "joint", "one", "other", "axis", "low", "high", "way", "widening", "narrowing", "body"]) (sc := defScope s_rows_of_joints) (by decide +kernel)) (fun _ _ _ _ _ => (pg_name (i := 17) sc_rows_of_joints.nd rfl (Or.inl rfl))) (fun _ _ _ _ _ => pts_nil) (fun _ _ _ _ _ => (pe_ix (r := rIxT K) ix_tup (pv 17) pe_int (fun _ _ => rfl))) (fun _ _ _ _ _ => (pv 17)))
      (pss_cons (ps_set (i := 5) sc_rows_of_joints.nd rfl (.inl rfl) (pe_call G_places_of (hr.mono (by decide)) (by rfl) Tp.g_places_of Tp.F_places_of.kp Tp.b_places_of .nil pass0 (pa_cons (pv 1) pa_nil)))
      (pss_cons (ps_set (i := 6) sc_rows_of_joints.nd rfl (.inl rfl) (pe_lst pa_nil))
      (pss_cons (ps_for PassesOwn.never rfl (EnT.pi_enumT (by rfl) Tp.n_enumerate (pa_cons (pv 2) pa_nil)) (pg_tup rfl (pgs_cons (pg_name (i := 7) sc_rows_of_joints.nd rfl (.inl rfl)) (pgs_cons (pg_name (i := 8) sc_rows_of_joints.nd rfl (.inl rfl)) pgs_nil))) (pss_cons (ps_asg (pv 8) (pg_tup rfl (pgs_cons (pg_name (i := 9) sc_rows_of_joints.nd rfl (.inl rfl)) (pgs_cons (pg_name (i := 10) sc_rows_of_joints.nd rfl (.inl rfl)) (pgs_cons (pg_name (i := 11) sc_rows_of_joints.nd rfl (.inl rfl)) (pgs_cons (pg_name (i := 12) sc_rows_of_joints.nd rfl (.inl rfl)) (pgs_cons (pg_name (i := 13) sc_rows_of_joints.nd rfl (.inl rfl)) pgs_nil)))))))
      (pss_cons (ps_if (PW.pt (pw_and (pt_not (pt_val (pe_call G_is_moving (hr.mono (by decide)) (by rfl) Tp.g_is_moving Tp.F_is_moving.kp Tp.b_is_moving .nil pass0 (pa_cons (pe_dget (hu_of hr) (pv 4) (pv 9) (fun _ _ => rfl)) pa_nil)))) (pw_and1 (pt_not (pt_val (pe_call G_is_moving (hr.mono (by decide)) (by rfl) Tp.g_is_moving Tp.F_is_moving.kp Tp.b_is_moving .nil pass0 (pa_cons (pe_dget (hu_of hr) (pv 4) (pv 10) (fun _ _ => rfl)) pa_nil))))))) (pss_one ps_continue) pss_nil)
      (pss_cons (ps_set (i := 14) sc_rows_of_joints.nd rfl (.inl rfl) (pe_call G_joint_way (hr.mono (by decide)) (by rfl) Tp.g_joint_way Tp.F_joint_way.kp Tp.b_joint_way .nil pass0 (pa_cons (pv 5) (pa_cons (pv 8) pa_nil))))
      (pss_cons (ps_set (i := 15) sc_rows_of_joints.nd rfl (.inl rfl) (pe_call G_parts_of (hr.mono (by decide)) (by rfl) Tp.g_parts_of Tp.F_parts_of.kp Tp.b_parts_of .nil pass0 (pa_cons (pe_lst (pa_cons (pe_tup (pa_cons (pe_dget (hu_of hr) (pv 4) (pv 10) (fun _ _ => rfl)) (pa_cons (pv 11) (pa_cons (pe_glob (v := .ref Tp.k_ONE) (by rfl) Tp.gk_ONE rfl) pa_nil)))) (pa_cons (pe_tup (pa_cons (pe_dget (hu_of hr) (pv 4) (pv 9) (fun _ _ => rfl)) (pa_cons (pv 11) (pa_cons (pe_glob (v := .ref Tp.k_MINUS_ONE) (by rfl) Tp.gk_MINUS_ONE rfl) pa_nil)))) pa_nil))) pa_nil)))
      (pss_cons (ps_set (i := 16) sc_rows_of_joints.nd rfl (.inl rfl) (pe_call G_parts_of (hr.mono (by decide)) (by rfl) Tp.g_parts_of Tp.F_parts_of.kp Tp.b_parts_of .nil pass0 (pa_cons (pe_lst (pa_cons (pe_tup (pa_cons (pe_dget (hu_of hr) (pv 4) (pv 9) (fun _ _ => rfl)) (pa_cons (pv 11) (pa_cons (pe_glob (v := .ref Tp.k_ONE) (by rfl) Tp.gk_ONE rfl) pa_nil)))) (pa_cons (pe_tup (pa_cons (pe_dget (hu_of hr) (pv 4) (pv 10) (fun _ _ => rfl)) (pa_cons (pv 11) (pa_cons (pe_glob (v := .ref Tp.k_MINUS_ONE) (by rfl) Tp.gk_MINUS_ONE rfl) pa_nil)))) pa_nil))) pa_nil)))
      (pss_cons (ps_expr (pe_bm PySem.F.plainAttrs_list PySem.F.slot_list_append PySem.F.type_list_append mt_append (pv 6) (pa_cons (pe_tup (pa_cons (pe_tup (pa_cons pe_str (pa_cons (pv 7) (pa_cons pe_int (pa_cons pe_int pa_nil))))) (pa_cons (pv 15) (pa_cons (pe_call G_minus (hr.mono (by decide)) (by rfl) Tp.g_minus Tp.F_minus.kp Tp.b_minus .nil pass0 (pa_cons (pv 12) (pa_cons (pv 14) pa_nil))) pa_nil)))) pa_nil)))
      (pss_one (ps_expr (pe_bm PySem.F.plainAttrs_list PySem.F.slot_list_append PySem.F.type_list_append mt_append (pv 6) (pa_cons (pe_tup (pa_cons (pe_tup (pa_cons pe_str (pa_cons (pv 7) (pa_cons pe_int (pa_cons pe_int pa_nil))))) (pa_cons (pv 16) (pa_cons (pe_call G_minus (hr.mono (by decide)) (by rfl) Tp.g_minus Tp.F_minus.kp Tp.b_minus .nil pass0 (pa_cons (pv 14) (pa_cons (pv 13) pa_nil))) pa_nil)))) pa_nil)))))))))))
      (pss_one (ps_ret (pv 6)))))))), body_T ?_ h⟩
  refine fun ds d r I hT => ?_
  obtain ⟨st, rfl, hs, hj, rfl⟩ := r
  walk_at "norm"
  refine s_seq (s_asgG (e_var rfl) (g_tup rfl (g_cons g_name (g_cons g_name (g_cons g_name g_nil))))) ?_
  refine q_asg (d := .k (bdK st.bs)) (e_dcW (ks := st.bs.map (·.nm)) (es := st.bs.map bdD) (iw_t (e_var rfl)) (by rw [List.length_map, List.length_map]) (by rw [List.length_map]) (by rw [List.length_map]; exact hs.len) hj.nd fun i m y hi hm hy => ?_) ?_
  · obtain ⟨z, hz, rfl⟩ := getElem?_of_map hy
    rw [List.getElem?_map, hz] at hm
    obtain rfl : z.nm = m := Option.some.inj hm
    rw [at0_map hz]
    exact ⟨_, w_name List.mem_cons_self, fun I' => p_i0 (e_var rfl), fun I' => e_var rfl⟩
  refine q_asg (d := .k (plcM st.bs)) (p_call (R := RPlaces) (ds := [.t (st.bs.map bdD)]) (by walk_at "ev") ⟨st.bs, rfl, hj.nd, hs.len, rfl⟩) ?_
  refine s_newL fun q hq => ?_
  refine s_loopRC (α := List Rw) (bs := st.js) (f := fun i j => .tuple [.int (i : Nat), jtD j]) (fun i rest a => i + rest.length = st.js.length ∧ (∀ j ∈ rest, j ∈ st.js) ∧ a.length ≤ 2 * i ∧ a ++ jrGo st.bs i rest = jrGo st.bs 0 st.js) (fun a => [some (.d (stD st)), some (.t (st.bs.map bdD)), some (.t (st.js.map jtD)), some (.d (vcd st.u0 st.u1)), some (.k (bdK st.bs)), some (.k (plcM st.bs)), some (.r q), none, none, none, none, none, none, none, none, none, none, none]) (fun a => lJ K q (a.map rwD) I) [] ⟨by omega, fun s h => h, Nat.le_refl _, rfl⟩ (iw_eT (ds := st.js.map jtD) (p_cons (e_var rfl) a_nil)) (by rw [List.length_map]) (fun i z h => by rw [at0_map h]) rfl (fun i j rest a hw => ?_) (fun a i hw => ?_)
  rotate_left
  · obtain ⟨_, _, _, h4⟩ := hw
    have h5 : a ++ [] = jrGo st.bs 0 st.js := h4
    rw [List.append_nil] at h5
    rw [h5]
    exact s_freezeL (i := 6) rfl hq (p_ret (e_var rfl))
  obtain ⟨h1, h2, h3, h4⟩ := hw
  have hjm := h2 j List.mem_cons_self
  obtain ⟨x, y, fx, fy, hab, hk⟩ := hj.j j hjm
  have hjl := hj.jl
  have hi : i < 24 := by rw [List.length_cons] at h1; omega
  have bx := hs.bs x (fnd_mem fx)
  have by_ := hs.bs y (fnd_mem fy)
  have hne : x.nm ≠ y.nm := by rw [fnd_nm fx, fnd_nm fy]; exact hab
  have hlj := hs.js j hjm
  refine ⟨_, g_tup rfl (g_cons g_name (g_cons g_name g_nil)), .inl ⟨a ++ jrM st.bs i j, ⟨by rw [List.length_cons] at h1; omega, fun z hz => h2 z (List.mem_cons_of_mem _ hz), by rw [List.length_append]; have := jrM_len st.bs i j; omega, by rw [← h4, List.append_assoc]; rfl⟩, ?_⟩⟩
  have eM : jrM st.bs i j = if 0 < x.ms ∨ 0 < y.ms then [⟨.tuple [.str "joint", .int (i : Nat), .int 0, .int 0], (sortP (partsM [(y, j.k, (1, 1)), (x, j.k, (-1, 1))])), minusM j.lo (wayM x y j.k)⟩, ⟨.tuple [.str "joint", .int (i : Nat), .int 0, .int 1], (sortP (partsM [(x, j.k, (1, 1)), (y, j.k, (-1, 1))])), minusM (wayM x y j.k) j.hi⟩] else [] := by
    unfold jrM
    rw [fx, fy]
  rw [eM]
  by_cases c : 0 < x.ms ∨ 0 < y.ms
  rotate_left
  · rw [if_neg c, List.append_nil]
    right
    refine s_lessC (ρ' := [some (.d (stD st)), some (.t (st.bs.map bdD)), some (.t (st.js.map jtD)), some (.d (vcd st.u0 st.u1)), some (.k (bdK st.bs)), some (.k (plcM st.bs)), some (.r q), some (.i (i : Nat)), some (.d (jtD j)), some (.i j.a), some (.i j.b), some (.i j.k), some (.d (fr j.lo)), some (.d (fr j.hi)), none, none, none, none]) ⟨.inr rfl, .inr rfl, .inr rfl, .inr rfl, .inr rfl, .inr rfl, .inr rfl, .inl rfl, .inl rfl, .inl rfl, .inl rfl, .inl rfl, .inl rfl, .inl rfl, .inr rfl, .inr rfl, .inr rfl, .inr rfl, trivial⟩ ?_
    refine s_seq (s_asgG (e_var rfl) (g_tup rfl (g_cons g_name (g_cons g_name (g_cons g_name (g_cons g_name (g_cons g_name g_nil))))))) ?_
    exact s_stopC (q_ifT (t_and (t_not (t_B (p_call (R := RMoving) (ds := [.d (bdD x)]) (p_cons (e_kGet (n := j.a) (x := bdD x) (e_var rfl) (e_var rfl) (by rw [bd_get, fx]; rfl)) a_nil) ⟨x, rfl, rfl⟩))) fun _ => (t_not (t_B (p_call (R := RMoving) (ds := [.d (bdD y)]) (p_cons (e_kGet (n := j.b) (x := bdD y) (e_var rfl) (e_var rfl) (by rw [bd_get, fy]; rfl)) a_nil) ⟨y, rfl, rfl⟩)))) (by rw [decide_eq_false (fun z => c (.inl z)), decide_eq_false (fun z => c (.inr z))]; rfl) s_cont)
  left
  rw [if_pos c]
  refine s_lessN (ρ' := [some (.d (stD st)), some (.t (st.bs.map bdD)), some (.t (st.js.map jtD)), some (.d (vcd st.u0 st.u1)), some (.k (bdK st.bs)), some (.k (plcM st.bs)), some (.r q), some (.i (i : Nat)), some (.d (jtD j)), some (.i j.a), some (.i j.b), some (.i j.k), some (.d (fr j.lo)), some (.d (fr j.hi)), some (.d (fr (wayM x y j.k))), some (.t ((sortP (partsM [(y, j.k, (1, 1)), (x, j.k, (-1, 1))])).map paD)), some (.t ((sortP (partsM [(x, j.k, (1, 1)), (y, j.k, (-1, 1))])).map paD)), none]) ⟨.inr rfl, .inr rfl, .inr rfl, .inr rfl, .inr rfl, .inr rfl, .inr rfl, .inl rfl, .inl rfl, .inl rfl, .inl rfl, .inl rfl, .inl rfl, .inl rfl, .inl rfl, .inl rfl, .inl rfl, .inr rfl, trivial⟩ ?_
  refine s_seq (s_asgG (e_var rfl) (g_tup rfl (g_cons g_name (g_cons g_name (g_cons g_name (g_cons g_name (g_cons g_name g_nil))))))) ?_
  refine q_skip (t_and (t_not (t_B (p_call (R := RMoving) (ds := [.d (bdD x)]) (p_cons (e_kGet (n := j.a) (x := bdD x) (e_var rfl) (e_var rfl) (by rw [bd_get, fx]; rfl)) a_nil) ⟨x, rfl, rfl⟩))) fun _ => (t_not (t_B (p_call (R := RMoving) (ds := [.d (bdD y)]) (p_cons (e_kGet (n := j.b) (x := bdD y) (e_var rfl) (e_var rfl) (by rw [bd_get, fy]; rfl)) a_nil) ⟨y, rfl, rfl⟩)))) (by
    rcases c with c | c
    · rw [decide_eq_true c]; rfl
    · rw [decide_eq_true c]; exact Bool.and_false _) ?_
  refine q_asg (d := .d (fr (wayM x y j.k))) (p_call (R := RWay) (ds := [.k (plcM st.bs), .d (jtD j)]) (by walk_at "ev") ⟨st.bs, j, x, y, rfl, fx, fy, hk, bx, by_, rfl⟩) ?_
  refine q_asg (d := .t ((sortP (partsM [(y, j.k, (1, 1)), (x, j.k, (-1, 1))])).map paD)) (p_call (R := RParts) (ds := [.d (.list (([(y, j.k, (1, 1)), (x, j.k, (-1, 1))] : List T3).map tmD))]) (p_cons (e_lst (ds := [.d (tmD (y, j.k, (1, 1))), .d (tmD (x, j.k, (-1, 1)))]) (p_cons (p_tup (ds := [.d (bdD y), .i j.k, .d (fr (1, 1))]) (p_cons (e_kGet (n := j.b) (x := bdD y) (e_var rfl) (e_var rfl) (by rw [bd_get, fy]; rfl)) (p_cons (e_var rfl) (p_cons (e_glob (x := fr (1, 1)) fun G => .tup (Tp.dk_ONE G) (.cons (.int 1) (.cons (.int 1) .nil))) a_nil))) (.cons (.cons (.cons .nil))) (show 3 ≤ 100000 by decide)) (p_cons (p_tup (ds := [.d (bdD x), .i j.k, .d (fr (-1, 1))]) (p_cons (e_kGet (n := j.a) (x := bdD x) (e_var rfl) (e_var rfl) (by rw [bd_get, fx]; rfl)) (p_cons (e_var rfl) (p_cons (e_glob (x := fr (-1, 1)) fun G => .tup (Tp.dk_MINUS_ONE G) (.cons (.int (-1)) (.cons (.int 1) .nil))) a_nil))) (.cons (.cons (.cons .nil))) (show 3 ≤ 100000 by decide)) a_nil)) (.cons (.cons .nil)) (show 2 ≤ 100000 by decide)) a_nil) ⟨_, rfl, (by decide : (2 : Nat) ≤ 1000), parts_keys (two_nd hne.symm), rfl⟩) ?_
  refine q_asg (d := .t ((sortP (partsM [(x, j.k, (1, 1)), (y, j.k, (-1, 1))])).map paD)) (p_call (R := RParts) (ds := [.d (.list (([(x, j.k, (1, 1)), (y, j.k, (-1, 1))] : List T3).map tmD))]) (p_cons (e_lst (ds := [.d (tmD (x, j.k, (1, 1))), .d (tmD (y, j.k, (-1, 1)))]) (p_cons (p_tup (ds := [.d (bdD x), .i j.k, .d (fr (1, 1))]) (p_cons (e_kGet (n := j.a) (x := bdD x) (e_var rfl) (e_var rfl) (by rw [bd_get, fx]; rfl)) (p_cons (e_var rfl) (p_cons (e_glob (x := fr (1, 1)) fun G => .tup (Tp.dk_ONE G) (.cons (.int 1) (.cons (.int 1) .nil))) a_nil))) (.cons (.cons (.cons .nil))) (show 3 ≤ 100000 by decide)) (p_cons (p_tup (ds := [.d (bdD y), .i j.k, .d (fr (-1, 1))]) (p_cons (e_kGet (n := j.b) (x := bdD y) (e_var rfl) (e_var rfl) (by rw [bd_get, fy]; rfl)) (p_cons (e_var rfl) (p_cons (e_glob (x := fr (-1, 1)) fun G => .tup (Tp.dk_MINUS_ONE G) (.cons (.int (-1)) (.cons (.int 1) .nil))) a_nil))) (.cons (.cons (.cons .nil))) (show 3 ≤ 100000 by decide)) a_nil)) (.cons (.cons .nil)) (show 2 ≤ 100000 by decide)) a_nil) ⟨_, rfl, (by decide : (2 : Nat) ≤ 1000), parts_keys (two_nd hne), rfl⟩) ?_
  have ow : PL.Ok 4000 (wayM x y j.k) := way_ok bx by_
  rw [show a ++ [⟨.tuple [.str "joint", .int (i : Nat), .int 0, .int 0], (sortP (partsM [(y, j.k, (1, 1)), (x, j.k, (-1, 1))])), minusM j.lo (wayM x y j.k)⟩, ⟨.tuple [.str "joint", .int (i : Nat), .int 0, .int 1], (sortP (partsM [(x, j.k, (1, 1)), (y, j.k, (-1, 1))])), minusM (wayM x y j.k) j.hi⟩] = (a ++ [(⟨.tuple [.str "joint", .int (i : Nat), .int 0, .int 0], (sortP (partsM [(y, j.k, (1, 1)), (x, j.k, (-1, 1))])), minusM j.lo (wayM x y j.k)⟩ : Rw)]) ++ [(⟨.tuple [.str "joint", .int (i : Nat), .int 0, .int 1], (sortP (partsM [(x, j.k, (1, 1)), (y, j.k, (-1, 1))])), minusM (wayM x y j.k) j.hi⟩ : Rw)] by rw [List.append_assoc]; rfl, List.map_append, List.map_append]
  refine s_seq (s_app (x := rwD ⟨.tuple [.str "joint", .int (i : Nat), .int 0, .int 0], (sortP (partsM [(y, j.k, (1, 1)), (x, j.k, (-1, 1))])), minusM j.lo (wayM x y j.k)⟩) (p_tup (ds := [.t [.str "joint", .int (i : Nat), .int 0, .int 0], .t (((sortP (partsM [(y, j.k, (1, 1)), (x, j.k, (-1, 1))]))).map paD), .d (fr (minusM j.lo (wayM x y j.k)))]) (p_cons (p_tup (ds := [.d (.str "joint"), .i (i : Nat), .i 0, .i 0]) (p_cons e_str (p_cons (e_var rfl) (p_cons e_int (p_cons e_int a_nil)))) (.cons (.cons (.cons (.cons .nil)))) (show 4 ≤ 100000 by decide)) (p_cons (e_var rfl) (p_cons (p_call (R := RPlus minusM) (ds := [.d (fr j.lo), .d (fr (wayM x y j.k))]) (p_cons (e_var rfl) (p_cons (e_var rfl) a_nil)) (RPlus.mk hlj.lo ow)) a_nil))) (.cons (.cons (.cons .nil))) (show 3 ≤ 100000 by decide)) rfl (by rw [List.length_map]; omega) hq) ?_
  exact (s_app (x := rwD ⟨.tuple [.str "joint", .int (i : Nat), .int 0, .int 1], (sortP (partsM [(x, j.k, (1, 1)), (y, j.k, (-1, 1))])), minusM (wayM x y j.k) j.hi⟩) (p_tup (ds := [.t [.str "joint", .int (i : Nat), .int 0, .int 1], .t (((sortP (partsM [(x, j.k, (1, 1)), (y, j.k, (-1, 1))]))).map paD), .d (fr (minusM (wayM x y j.k) j.hi))]) (p_cons (p_tup (ds := [.d (.str "joint"), .i (i : Nat), .i 0, .i 1]) (p_cons e_str (p_cons (e_var rfl) (p_cons e_int (p_cons e_int a_nil)))) (.cons (.cons (.cons (.cons .nil)))) (show 4 ≤ 100000 by decide)) (p_cons (e_var rfl) (p_cons (p_call (R := RPlus minusM) (ds := [.d (fr (wayM x y j.k)), .d (fr j.hi)]) (p_cons (e_var rfl) (p_cons (e_var rfl) a_nil)) (RPlus.mk ow hlj.hi)) a_nil))) (.cons (.cons (.cons .nil))) (show 3 ≤ 100000 by decide)) rfl (by rw [List.length_append, List.length_map]; show a.length + 1 < 100000; omega) hq)
theorem fok_law_vector (Tp : Top K mg base) : FnOk P w K mg base CX0 4 Tp.f_law_vector Tp.d_law_vector ["d", "most"] (spW K RVec) := by
  have G_law_part := fok_law_part (P := P) (w := w) (base := base) Tp
  refine Tp.F_law_vector.ok sc_law_vector (fun vs H Q E h => len_W (fun _ _ _ _ ⟨_, e, _⟩ => by rw [e]; rfl) h) (fun cdv A outer s H vs Q E hr h => ?_)
  refine ⟨_, (pss_one (ps_ret (pe_tup (pa_cons (pe_call G_law_part (hr.mono (by decide)) (by rfl) Tp.g_law_part Tp.F_law_part.kp Tp.b_law_part .nil pass0 (pa_cons (pv 0) (pa_cons (pv 1) pa_nil))) (pa_cons (pe_call G_law_part (hr.mono (by decide)) (by rfl) Tp.g_law_part Tp.F_law_part.kp Tp.b_law_part .nil pass0 (pa_cons (pv 0) (pa_cons (pv 1) pa_nil))) pa_nil))))), body_W ?_ h⟩
  refine fun ds C d C' r p J hf => ?_
  obtain ⟨m, rfl, ok, hm, hz, rfl, rfl⟩ := r
  walk_at "norm"
  obtain ⟨o1, _⟩ := part_ok (C := C) (m := m) ok hm hz
  refine s_ret (e_tup (a_cons (e_draw (R := RPart) (ds := [.i m]) (C := C) (by walk_at "ev") ⟨_, rfl, ok, hm, hz, rfl, rfl⟩ hf) (a_cons (e_draw (R := RPart) (ds := [.i m]) (by walk_at "ev") ⟨_, rfl, o1, hm, hz, rfl, rfl⟩ hf) a_nil)) (.cons (.cons .nil)) (show 2 ≤ 100000 by decide))
theorem fok_law_told (Tp : Top K mg base) : FnOk P w K mg base CX0 4 Tp.f_law_told Tp.d_law_told ["which", "a", "b", "c", "line", "n"] (spP K RToldFl) := by
  have G_flight := fok_flight (P := P) (w := w) (base := base) Tp
  have G_crossing_tick := fok_crossing_tick (P := P) (w := w) (base := base) Tp
  refine Tp.F_law_told.ok sc_law_told (fun vs H Q E h => len_P (fun _ _ z => by rcases z with ⟨_, _, _, _, _, _, _, _, e, _⟩ | ⟨_, _, _, _, _, e, _⟩ <;> (rw [e]; rfl)) h) (fun cdv A outer s H vs Q E hr h => ?_)
  refine ⟨_, (pss_cons (PX.tryO rfl rfl ⟨rfl, by decide, .inl Tp.gc_TickError⟩ takes0 (fun W pn xe tk _ => (pss_one (ps_set (i := 6) sc_law_told.nd rfl (.inl rfl) (pe_ifExp (pt_cmpR op_eq (pv 0) pe_int (nomark _)) (pe_callS G_flight (hr.mono (by decide)) (by rfl) Tp.g_flight Tp.F_flight.kp Tp.b_flight (fun σ => passAt tk σ) (pa_cons (pv 1) (pa_cons (pv 2) (pa_cons (pv 3) (pa_cons (pv 5) pa_nil))))) (pe_callS G_crossing_tick (hr.mono (by decide)) (by rfl) Tp.g_crossing_tick Tp.F_crossing_tick.kp Tp.b_crossing_tick (fun σ => passAt tk σ) (pa_cons (pv 1) (pa_cons (pv 2) (pa_cons (pv 3) (pa_cons (pv 4) (pa_cons (pv 5) pa_nil)))))))))) (fun a oe cls d pn hz hf => (pss_one (ps_ret pe_str))))
      (pss_one (ps_ret (pv 6)))), body_P ?_ h⟩
  refine fun ds d r I => ?_
  rcases r with ⟨p0, p1, s0, s1, u0, u1, z, n, rfl, hp0, hp1, hs0, hs1, hu0, hu1, r⟩ | ⟨p, s, w, l, m, rfl, hp, hs, hw, hl, r⟩
  · walk_at "norm"
    rcases r with ⟨n0, n1, rfl⟩ | ⟨hn, rfl⟩
    · exact s_seq (ρ1 := [some (.i 0), some (.d (vcd p0 p1)), some (.d (vcd s0 s1)), some (.d (vcd u0 u1)), some (.i z), some (.i n), some (.d (.tuple [vcd (flyP p0 s0 u0 n) (flyP p1 s1 u1 n), vcd (flyV s0 u0 n) (flyV s1 u1 n)]))]) (J := I) (s_tryNO fun W => p_asg (e_ifT (t_is (p_test (p_eqI (i := 0) (j := 0) (e_var (i := 0) rfl) e_int)) rfl) (e_callSX (tabs := noT) (R := RFly Tp.c_TickError) (ds := [.d (vcd p0 p1), .d (vcd s0 s1), .d (vcd u0 u1), .i n]) (p_cons (e_var (i := 1) rfl) (p_cons (e_var (i := 2) rfl) (p_cons (e_var (i := 3) rfl) (p_cons (e_var (i := 5) rfl) a_nil)))) ⟨p0, p1, s0, s1, u0, u1, n, rfl, hp0, hp1, hs0, hs1, hu0, hu1, .inl ⟨n0, n1, rfl⟩⟩))) (p_ret (e_var rfl))
    · exact s_stop (s_tryXO (C := Tp.c_TickError) (ρx := [some (.i 0), some (.d (vcd p0 p1)), some (.d (vcd s0 s1)), some (.d (vcd u0 u1)), some (.i z), some (.i n), none]) (Jx := I) (PySem.W.exm_ref Tp.bc_TickError Tp.hc_TickError Tp.tc_TickError Tp.ac_TickError_TickError) (fun a_ => p_ret e_str) fun W G0 hW => s_asgE (e_ifT (t_is (p_test (p_eqI (i := 0) (j := 0) (e_var (i := 0) rfl) e_int)) rfl) (e_callSE (tabs := noT) (R := RFly Tp.c_TickError) (ds := [.d (vcd p0 p1), .d (vcd s0 s1), .d (vcd u0 u1), .i n]) (d := .d .none) (L := .no) (J := I.and (Asn.frm G0)) (p_cons (e_var (i := 1) rfl) (p_cons (e_var (i := 2) rfl) (p_cons (e_var (i := 3) rfl) (p_cons (e_var (i := 5) rfl) a_nil)))) ⟨p0, p1, s0, s1, u0, u1, n, rfl, hp0, hp1, hs0, hs1, hu0, hu1, .inr ⟨hn, rfl⟩⟩ fun G H σ gh en j => hW G H σ j.2 gh en j.1)) fun _ _ z => z)
  · walk_at "norm"
    rcases r with ⟨n0, n1, rfl⟩ | ⟨hn, rfl⟩
    · exact s_seq (ρ1 := [some (.i 1), some (.d (fr p)), some (.d (fr s)), some (.d (fr w)), some (.d (fr l)), some (.i m), some (optN (crossQ p s w l m.toNat))]) (J := I) (s_tryNO fun W => p_asg (e_ifF (t_is (p_test (p_eqI (i := 1) (j := 0) (e_var (i := 0) rfl) e_int)) rfl) (e_callSX (tabs := noT) (R := RCrossQ Tp.c_TickError) (ds := [.d (fr p), .d (fr s), .d (fr w), .d (fr l), .i m]) (p_cons (e_var (i := 1) rfl) (p_cons (e_var (i := 2) rfl) (p_cons (e_var (i := 3) rfl) (p_cons (e_var (i := 4) rfl) (p_cons (e_var (i := 5) rfl) a_nil))))) ⟨p, s, w, l, m, rfl, hp, hs, hw, hl, .inl ⟨n0, n1, rfl⟩⟩))) (p_ret (e_var rfl))
    · exact s_stop (s_tryXO (C := Tp.c_TickError) (ρx := [some (.i 1), some (.d (fr p)), some (.d (fr s)), some (.d (fr w)), some (.d (fr l)), some (.i m), none]) (Jx := I) (PySem.W.exm_ref Tp.bc_TickError Tp.hc_TickError Tp.tc_TickError Tp.ac_TickError_TickError) (fun a_ => p_ret e_str) fun W G0 hW => s_asgE (e_ifF (t_is (p_test (p_eqI (i := 1) (j := 0) (e_var (i := 0) rfl) e_int)) rfl) (e_callSE (tabs := noT) (R := RCrossQ Tp.c_TickError) (ds := [.d (fr p), .d (fr s), .d (fr w), .d (fr l), .i m]) (d := .d .none) (L := .no) (J := I.and (Asn.frm G0)) (p_cons (e_var (i := 1) rfl) (p_cons (e_var (i := 2) rfl) (p_cons (e_var (i := 3) rfl) (p_cons (e_var (i := 4) rfl) (p_cons (e_var (i := 5) rfl) a_nil))))) ⟨p, s, w, l, m, rfl, hp, hs, hw, hl, .inr ⟨hn, rfl⟩⟩ fun G H σ gh en j => hW G H σ j.2 gh en j.1)) fun _ _ z => z)
theorem fok_law_walk (Tp : Top K mg base) : FnOk P w K mg base CX0 4 Tp.f_law_walk Tp.d_law_walk ["place", "speed", "pull", "n"] (spP K RWalk) := by
  have G_law_plus := fok_law_plus (P := P) (w := w) (base := base) Tp
  refine Tp.F_law_walk.ok sc_law_walk (fun vs H Q E h => len_P (fun _ _ ⟨_, _, _, _, e, _⟩ => by rw [e]; rfl) h) (fun cdv A outer s H vs Q E hr h => ?_)
  refine ⟨_, (pss_cons (ps_set (i := 4) sc_law_walk.nd rfl (.inl rfl) (pe_lst (pa_cons (pv 0) pa_nil)))
      (pss_cons (ps_for PassesOwn.never rfl (pi_range1 (by rfl) Tp.n_range (pa_cons (pv 3) pa_nil)) (pg_name (i := 5) sc_law_walk.nd rfl (.inl rfl)) (pss_cons (ps_set (i := 1) sc_law_walk.nd rfl (.inl rfl) (pe_call G_law_plus (hr.mono (by decide)) (by rfl) Tp.g_law_plus Tp.F_law_plus.kp Tp.b_law_plus .nil pass0 (pa_cons (pv 1) (pa_cons (pv 2) pa_nil))))
      (pss_cons (ps_set (i := 0) sc_law_walk.nd rfl (.inl rfl) (pe_call G_law_plus (hr.mono (by decide)) (by rfl) Tp.g_law_plus Tp.F_law_plus.kp Tp.b_law_plus .nil pass0 (pa_cons (pv 0) (pa_cons (pv 1) pa_nil))))
      (pss_one (ps_expr (pe_bm PySem.F.plainAttrs_list PySem.F.slot_list_append PySem.F.type_list_append mt_append (pv 4) (pa_cons (pv 0) pa_nil)))))))
      (pss_one (ps_ret (pv 4))))), body_P ?_ h⟩
  refine fun ds d r I => ?_
  obtain ⟨p, s, w, n, rfl, h, hn, rfl⟩ := r
  walk_at "norm"
  refine s_newLA (ds := [.d (fr p)]) (xs := [fr p]) (p_cons (e_var rfl) a_nil) (.cons .nil) (show 1 ≤ 100000 by decide) fun q hq => ?_
  refine s_loop (α := Nat) (W := fun i a => a = i) (P := fun a => [some (.d (fr (walkP p s w a))), some (.d (fr (walkV s w a))), some (.d (fr w)), some (.i (n : Nat)), some (.r q), none]) (V := fun a => lJ K q ((walkL p s w a).map fr) I) 0 rfl (iw_r (n := n) (p_cons (e_var rfl) a_nil) (by omega)) rfl (fun i a hi hw => ?_) (fun a hw => ?_)
  · subst hw
    refine ⟨_, g_name, .inl ⟨a + 1, rfl, ?_⟩⟩
    have e1 : lplus (walkV s w a) w = walkV s w (a + 1) := lplus_eq (walkV_nrm h.s.nrm h.w.nrm a) h.w.nrm
    have e2 : lplus (walkP p s w a) (walkV s w (a + 1)) = walkP p s w (a + 1) := lplus_eq (walkP_nrm h.p.nrm h.s.nrm h.w.nrm a) (walkV_nrm h.s.nrm h.w.nrm (a + 1))
    refine q_asg (d := .d (fr (walkV s w (a + 1)))) (e_is (p_call (R := RPlus lplus) (ds := [.d (fr (walkV s w a)), .d (fr w)]) (by walk_at "ev") (RPlus.mk (wk_v h (k := a) (by omega)) (wk_w h))) (by rw [e1])) ?_
    refine q_asg (d := .d (fr (walkP p s w (a + 1)))) (e_is (p_call (R := RPlus lplus) (ds := [.d (fr (walkP p s w a)), .d (fr (walkV s w (a + 1)))]) (by walk_at "ev") (RPlus.mk (wk_p h (k := a) (by omega)) (wk_v h (k := a + 1) (by omega)))) (by rw [e2])) ?_
    rw [walkL_s]
    refine s_lessN (ρ' := [some (.d (fr (walkP p s w (a + 1)))), some (.d (fr (walkV s w (a + 1)))), some (.d (fr w)), some (.i (n : Nat)), some (.r q), some (.i (a : Nat))]) ⟨.inr rfl, .inr rfl, .inr rfl, .inr rfl, .inr rfl, .inl rfl, trivial⟩ ?_
    exact s_app (e_var (i := 0) rfl) rfl (by rw [walkL_len]; omega) hq
  · subst hw
    exact s_freeze (i := 4) rfl hq (p_ret (e_var rfl))
theorem fok_law_cross (Tp : Top K mg base) : FnOk P w K mg base CX0 4 Tp.f_law_cross Tp.d_law_cross ["rows", "line"] (spP K RLCross) := by
  have G_law_minus := fok_law_minus (P := P) (w := w) (base := base) Tp
  refine Tp.F_law_cross.ok sc_law_cross (fun vs H Q E h => len_P (fun _ _ ⟨_, _, _, _, _, e, _⟩ => by rw [e]; rfl) h) (fun cdv A outer s H vs Q E hr h => ?_)
  refine ⟨_, (pss_cons (ps_set (i := 2) sc_law_cross.nd rfl (.inl rfl) (pe_ix (r := rIxT K) ix_tup (pe_call G_law_minus (hr.mono (by decide)) (by rfl) Tp.g_law_minus Tp.F_law_minus.kp Tp.b_law_minus .nil pass0 (pa_cons (pe_ix (r := rIxL K) ix_list (pv 0) pe_int (fun _ _ => rfl)) (pa_cons (pv 1) pa_nil))) pe_int (fun _ _ => rfl)))
      (pss_cons (ps_for PassesOwn.never rfl (pi_range2 (by rfl) Tp.n_range (pa_cons pe_int (pa_cons (pe_callB call_len_seq (by rfl) Tp.n_len (by decide +kernel) (pa_cons (pv 0) pa_nil)) pa_nil))) (pg_name (i := 3) sc_law_cross.nd rfl (.inl rfl)) (pss_cons (ps_set (i := 4) sc_law_cross.nd rfl (.inl rfl) (pe_ix (r := rIxT K) ix_tup (pe_call G_law_minus (hr.mono (by decide)) (by rfl) Tp.g_law_minus Tp.F_law_minus.kp Tp.b_law_minus .nil pass0 (pa_cons (pe_ix (r := rIxL K) ix_list (pv 0) (pv 3) (fun _ _ => rfl)) (pa_cons (pv 1) pa_nil))) pe_int (fun _ _ => rfl)))
      (pss_one (ps_if (PW.pt (pw_or (pt_cmpR op_eq (pv 2) pe_int (nomark _)) (pw_or (pt_cmpR op_eq (pv 4) pe_int (nomark _)) (pw_or1 (pt_cmpR (op_neD hr.units) (pe_cmpR op_gt (pv 4) pe_int (nomark _)) (pe_cmpR op_gt (pv 2) pe_int (nomark _)) (nomark _)))))) (pss_one (ps_ret (pv 3))) pss_nil))))
      (pss_one (ps_ret pe_non)))), body_P ?_ h⟩
  refine fun ds d r I => ?_
  obtain ⟨p, s, w, l, n, rfl, h, hl, n1, n2, rfl⟩ := r
  walk_at "norm"
  have e0 : lminus p l = minusM p l := lminus_eq h.p.nrm hl.nrm
  have ek : ∀ k, lminus (walkP p s w k) l = minusM (walkP p s w k) l := fun k => lminus_eq (walkP_nrm h.p.nrm h.s.nrm h.w.nrm k) hl.nrm
  obtain ⟨a, v, u, eQ, cr⟩ := crossQ_at h hl
  rw [eQ]
  refine q_asg (d := .i (minusM p l).1) (p_f1 (e_is (p_call (R := RPlus lminus) (ds := [.d (fr p), .d (fr l)]) (p_cons (e_ixL (j := 0) (e_var (i := 0) rfl) e_int (walkL_at (k := 0) (by omega))) (p_cons (e_var (i := 1) rfl) a_nil)) (RPlus.mk (wk_p h (k := 0) (by decide)) hl)) (by rw [e0]))) ?_
  refine s_loop (α := Unit) (W := fun i _ => ∀ j : Nat, 1 ≤ j → j < i + 1 → ¬ Crs a v u j) (P := fun _ => [some (.d (.list ((walkL p s w n).map fr))), some (.d (fr l)), some (.i (minusM p l).1), none, none]) (V := fun _ => I) () (fun j j1 j2 => absurd j2 (by omega)) (e_iwn (m := n) (iw_r2 (lo := 1) (hi := ((n + 1 : Nat) : Int)) (p_cons e_int (p_cons (e_is (p_len (p_cons (e_var (i := 0) rfl) a_nil)) (by rw [walkL_len])) a_nil)) (by decide) (by omega)) (by omega)) rfl (fun i _ hi hw => ?_) (fun _ hw => ?_)
  · have ei : (1 + ((i : Nat) : Int)) = ((i + 1 : Nat) : Int) := by omega
    refine ⟨_, g_name, ?_⟩
    rw [ei]
    by_cases c : crsB p s w l (i + 1) = true
    · refine .inr ⟨ret_rt, ?_⟩
      rw [crossT_some (k := i + 1) (by omega) (by omega) ((cr _).mp c) fun j j1 j2 => hw j j1 j2]
      exact (q_asg (i := 4) (d := .i (minusM (walkP p s w (i + 1)) l).1) (p_f1 (e_is (p_call (R := RPlus lminus) (ds := [.d (fr (walkP p s w (i + 1))), .d (fr l)]) (p_cons (e_ixL (j := i + 1) (e_var (i := 0) rfl) (e_var (i := 3) rfl) (walkL_at (k := i + 1) (by omega))) (p_cons (e_var (i := 1) rfl) a_nil)) (RPlus.mk (wk_p h (k := i + 1) (by omega)) hl)) (by rw [ek]))) (q_ifT (t_or (p_test (p_eqI (i := (minusM p l).1) (j := 0) (e_var (i := 2) rfl) e_int)) fun _ => t_or (p_test (p_eqI (i := (minusM (walkP p s w (i + 1)) l).1) (j := 0) (e_var (i := 4) rfl) e_int)) fun _ => p_test (e_neD (x := .bool (decide (0 < (minusM (walkP p s w (i + 1)) l).1))) (y := .bool (decide (0 < (minusM p l).1))) (p_gt (i := (minusM (walkP p s w (i + 1)) l).1) (j := 0) (e_var (i := 4) rfl) e_int) (p_gt (i := (minusM p l).1) (j := 0) (e_var (i := 2) rfl) e_int) rfl rfl)) c (p_ret (e_var (i := 3) rfl))))
    · refine .inl ⟨(), fun j j1 j2 => ?_, ?_⟩
      · by_cases z : j < i + 1
        · exact hw j j1 z
        · rw [show j = i + 1 by omega]
          exact fun y => c ((cr _).mpr y)
      · refine (q_asg (i := 4) (d := .i (minusM (walkP p s w (i + 1)) l).1) (p_f1 (e_is (p_call (R := RPlus lminus) (ds := [.d (fr (walkP p s w (i + 1))), .d (fr l)]) (p_cons (e_ixL (j := i + 1) (e_var (i := 0) rfl) (e_var (i := 3) rfl) (walkL_at (k := i + 1) (by omega))) (p_cons (e_var (i := 1) rfl) a_nil)) (RPlus.mk (wk_p h (k := i + 1) (by omega)) hl)) (by rw [ek]))) (s_lessN (ρ' := [some (.d (.list ((walkL p s w n).map fr))), some (.d (fr l)), some (.i (minusM p l).1), some (.i (i + 1 : Nat)), some (.i (minusM (walkP p s w (i + 1)) l).1)]) ⟨.inr rfl, .inr rfl, .inr rfl, .inl rfl, .inl rfl, trivial⟩ ?_))
        exact q_ifF (t_or (p_test (p_eqI (i := (minusM p l).1) (j := 0) (e_var (i := 2) rfl) e_int)) fun _ => t_or (p_test (p_eqI (i := (minusM (walkP p s w (i + 1)) l).1) (j := 0) (e_var (i := 4) rfl) e_int)) fun _ => p_test (e_neD (x := .bool (decide (0 < (minusM (walkP p s w (i + 1)) l).1))) (y := .bool (decide (0 < (minusM p l).1))) (p_gt (i := (minusM (walkP p s w (i + 1)) l).1) (j := 0) (e_var (i := 4) rfl) e_int) (p_gt (i := (minusM p l).1) (j := 0) (e_var (i := 2) rfl) e_int) rfl rfl)) (Bool.eq_false_iff.mpr c) s_next
  · rw [crossT_none n1 fun j j1 j2 => hw j j1 (by omega)]
    exact p_ret e_non
theorem fok_nearest (Tp : Top K mg base) : FnOk P w K mg base (L2.CX P w) 5 Tp.f_nearest Tp.d_nearest ["weights", "wishes", "lines"] (spXT K Tp.tabs RNear0) := by
  have G_check_task := fok_check_task (P := P) (w := w) (base := base) Tp
  have G_Search_init := fok_Search_init (P := P) (w := w) (base := base) Tp
  have G_Search_worst_line := fok_Search_worst_line (P := P) (w := w) (base := base) Tp
  have G_Search_raise_line := fok_Search_raise_line (P := P) (w := w) (base := base) Tp
  have G_Search_forces := fok_Search_forces (P := P) (w := w) (base := base) Tp
  refine Tp.F_nearest.okX sc_nearest (fun vs H Q E h => len_X (fun _ _ ⟨_, _, e, _⟩ => by rw [e]; rfl) h) (fun cdv A outer s H vs Q E hr h => ?_)
  refine ⟨_, (pss_cons (ps_expr (pe_call G_check_task (hr.mono (by decide)) (by rfl) Tp.g_check_task Tp.F_check_task.kp Tp.b_check_task .nil (passes_call (takes_of rfl rfl rfl rfl) (fun _ _ _ _ z => z)) (pa_cons (pv 0) (pa_cons (pv 1) (pa_cons (pv 2) pa_nil)))))
      (pss_cons (ps_set (i := 3) sc_nearest.nd rfl (.inl rfl) (pe_make Tp.mk_Search G_Search_init (hr.mono (by decide)) (by rfl) Tp.gC_Search Tp.b_Search_init .nil pass0 (pa_cons (pv 0) (pa_cons (pv 1) (pa_cons (pv 2) pa_nil)))))
      (pss_cons (ps_set (i := 4) sc_nearest.nd rfl (.inl rfl) (pe_meth0 (pv 3) Tp.cl_Search Tp.me_Search_worst_line G_Search_worst_line (hr.mono (by decide)) Tp.b_Search_worst_line .nil pass0))
      (pss_cons (ps_while (passes_of rfl) (pt_cmpR op_notN (pv 4) pe_non (nomark _)) (pss_cons (ps_expr (pe_meth (pv 3) Tp.cl_Search Tp.me_Search_raise_line G_Search_raise_line (hr.mono (by decide)) Tp.b_Search_raise_line .nil (passes_call (takes_of rfl rfl rfl rfl) (fun _ _ _ _ z => z)) (pa_cons (pv 4) pa_nil)))
      (pss_one (ps_set (i := 4) sc_nearest.nd rfl (.inl rfl) (pe_meth0 (pv 3) Tp.cl_Search Tp.me_Search_worst_line G_Search_worst_line (hr.mono (by decide)) Tp.b_Search_worst_line .nil pass0)))))
      (pss_one (ps_ret (pe_tup (pa_cons (pe_callTy call_tuple_of (by rfl) Tp.n_tuple (by decide +kernel) (pa_cons (pe_fld (pv 3) rfl) pa_nil)) (pa_cons (pe_meth0 (pv 3) Tp.cl_Search Tp.me_Search_forces G_Search_forces (hr.mono (by decide)) Tp.b_Search_forces .nil pass0) pa_nil))))))))), body_XT ?_ h⟩
  refine fun ds r hr I hT hx => ?_
  obtain ⟨ws, pts, rfl, h, rfl⟩ := hr
  walk_at "norm"
  refine s_seq (s_drop (e_callX (tabs := Tp.tabs) (R := RTask0) (ds := [.t (ws.map PyData.int), .t (pts.map fr), .t []]) (d := .d .none) (by walk_at "ev") ⟨ws, pts, rfl, h, rfl⟩)) ?_
  refine q_asg (d := oD K Tp.C_Search (fsS ws pts)) (e_make (T := noT) (R := RInit0) (ds := [.t (ws.map PyData.int), .t (pts.map fr), .t []]) (by walk_at "ev") ⟨ws, pts, rfl, rfl⟩) ?_
  refine q_asg (d := .d .none) (e_meth (T := noT) (ds := []) (e_var rfl) a_nil (fs_m1 ws pts) ⟨ws, pts, rfl, h, rfl⟩) ?_
  refine s_seq (s_while0 (t_is (p_test (e_notN (x := .none) (e_var rfl) e_non)) rfl)) ?_
  exact p_ret (p_tup (ds := [.t (pts.map fr), .t []]) (p_cons (e_tupOf (p_cons (e_fld Tp.cl_Search Tp.na_Search_point (e_var (i := 3) rfl) (fs_point ws pts)) a_nil)) (p_cons (e_meth (T := noT) (R := RForces0 K Tp.C_Search) (ds := []) (e_var (i := 3) rfl) a_nil (fs_m2 ws pts) ⟨ws, pts, rfl, rfl⟩) a_nil)) (.cons (.cons .nil)) (show 2 ≤ 100000 by decide))
theorem fok_check_state (Tp : Top K mg base) : FnOk P w K mg base (L2.CX P w) 5 Tp.f_check_state Tp.d_check_state ["state"] (spXT K Tp.tabs (RChk Tp.c_TooLarge Tp.c_BodyError Tp.c_OverlapError Tp.c_JointError)) := by
  have G_check_bodies := fok_check_bodies (P := P) (w := w) (base := base) Tp
  have G_check_overlaps := fok_check_overlaps (P := P) (w := w) (base := base) Tp
  have G_places_of := fok_places_of (P := P) (w := w) (base := base) Tp
  have G_check_joint := fok_check_joint (P := P) (w := w) (base := base) Tp
  refine Tp.F_check_state.okX sc_check_state (fun vs H Q E h => len_X (fun _ _ ⟨_, e, _⟩ => by rw [e]; rfl) h) (fun cdv A outer s H vs Q E hr h => ?_)
  refine ⟨_, (pss_cons (ps_asg (pv 0) (pg_tup rfl (pgs_cons (pg_name (i := 1) sc_check_state.nd rfl (.inl rfl)) (pgs_cons (pg_name (i := 2) sc_check_state.nd rfl (.inl rfl)) (pgs_cons (pg_name (i := 3) sc_check_state.nd rfl (.inl rfl)) pgs_nil)))))
      (pss_cons (ps_if (PW.pt (pw_or (pt_cmpR op_gt (pe_callB call_len_seq (by rfl) Tp.n_len (by decide +kernel) (pa_cons (pv 1) pa_nil)) (pe_glob (v := .int 24) (by rfl) Tp.gk_BODY_LIMIT ⟨_, rfl⟩) (nomark _)) (pw_or1 (pt_cmpR op_gt (pe_callB call_len_seq (by rfl) Tp.n_len (by decide +kernel) (pa_cons (pv 2) pa_nil)) (pe_glob (v := .int 24) (by rfl) Tp.gk_JOINT_LIMIT ⟨_, rfl⟩) (nomark _))))) (pss_one (ps_raise rfl (takes_of rfl rfl rfl rfl) (pmk_own PySem.F.excBase_ValueError Tp.xc_TooLarge Tp.gc_TooLarge Tp.kc_TooLarge (raises_own Tp.bc_TooLarge Tp.tc_TooLarge) rfl))) pss_nil)
      (pss_cons (ps_expr (pe_call G_check_bodies (hr.mono (by decide)) (by rfl) Tp.g_check_bodies Tp.F_check_bodies.kp Tp.b_check_bodies .nil (passes_call (takes_of rfl rfl rfl rfl) (fun _ _ _ _ z => z)) (pa_cons (pv 1) pa_nil)))
      (pss_cons (ps_expr (pe_call G_check_overlaps (hr.mono (by decide)) (by rfl) Tp.g_check_overlaps Tp.F_check_overlaps.kp Tp.b_check_overlaps .nil (passes_call (takes_of rfl rfl rfl rfl) (fun _ _ _ _ z => z)) (pa_cons (pv 1) pa_nil)))
      (pss_cons (ps_set (i := 4) sc_check_state.nd rfl (.inl rfl) (pe_call G_places_of (hr.mono (by decide)) (by rfl) Tp.g_places_of Tp.F_places_of.kp Tp.b_places_of .nil pass0 (pa_cons (pv 1) pa_nil)))
      (pss_one (ps_for (passes_of rfl) rfl (pi_tup (pv 2)) (pg_name (i := 5) sc_check_state.nd rfl (.inl rfl)) (pss_one (ps_expr (pe_call G_check_joint (hr.mono (by decide)) (by rfl) Tp.g_check_joint Tp.F_check_joint.kp Tp.b_check_joint .nil (passes_call (takes_of rfl rfl rfl rfl) (fun _ _ _ _ z => z)) (pa_cons (pv 4) (pa_cons (pv 5) pa_nil)))))))))))), body_XNT ?_ h⟩
  refine fun ds r hr I hT hx => ?_
  obtain ⟨st, rfl, hs, hr⟩ := hr
  walk_at "norm"
  have el : (decide (24 < (((st.bs.map bdD).length : Nat) : Int)) || decide (24 < (((st.js.map jtD).length : Nat) : Int))) = largeM st := by rw [List.length_map, List.length_map]; rfl
  rcases hr with ⟨h0, rfl⟩ | ⟨h0, rfl⟩ | ⟨h0, rfl⟩ | ⟨h0, rfl⟩ | ⟨h0, rfl⟩
  · obtain ⟨h1, h2, h3, h4⟩ := chk_0 h0
    refine .inl ⟨rfl, [some (.d (stD st)), some (.t (st.bs.map bdD)), some (.t (st.js.map jtD)), some (.d (vcd st.u0 st.u1)), some (.k (plcM st.bs)), none], s_seq (s_asgG (e_var rfl) (g_tup rfl (g_cons g_name (g_cons g_name (g_cons g_name g_nil))))) ?_⟩
    refine q_skip (t_or (p_test (p_gt (i := ((st.bs.map bdD).length : Nat)) (j := 24) (p_lenT (p_cons (e_var rfl) a_nil)) e_int)) fun _ => p_test (p_gt (i := ((st.js.map jtD).length : Nat)) (j := 24) (p_lenT (p_cons (e_var rfl) a_nil)) e_int)) (by rw [el]; exact h1) ?_
    refine s_seq (s_drop (e_callX (R := RBods Tp.c_BodyError) (ds := [.t (st.bs.map bdD)]) (by walk_at "ev") ⟨st.bs, rfl, hs.bs, .inl ⟨h2, rfl⟩⟩)) ?_
    refine s_seq (s_drop (e_callX (tabs := Tp.tabs) (R := ROvl Tp.c_OverlapError) (ds := [.t (st.bs.map bdD)]) (by walk_at "ev") ⟨st.bs, rfl, hs.bs, hs.len, .inl ⟨h3, rfl⟩⟩)) ?_
    refine q_asg (d := .k (plcM st.bs)) (p_call (R := RPlaces) (ds := [.t (st.bs.map bdD)]) (by walk_at "ev") ⟨st.bs, rfl, (badB_asc h2).2, hs.len, rfl⟩) ?_
    refine s_loopR1 (α := Unit) (bs := st.js) (f := fun _ z => jtD z) (fun _ rest _ => rest.any (jbad st.bs) = false ∧ ∀ z ∈ rest, JtOk z) (fun _ => [some (.d (stD st)), some (.t (st.bs.map bdD)), some (.t (st.js.map jtD)), some (.d (vcd st.u0 st.u1)), some (.k (plcM st.bs)), none]) (fun _ => I) () ⟨h4, hs.js⟩ (iw_t (e_var rfl)) (by rw [List.length_map]) (fun i z h => at0_map h) rfl (fun i z rest _ hw => ?_) (fun _ j hw => s_next)
    have hz := hw.2 z List.mem_cons_self
    have h5 : (jbad st.bs z || rest.any (jbad st.bs)) = false := hw.1
    rw [Bool.or_eq_false_iff] at h5
    refine ⟨_, g_name, .inl ⟨(), ⟨h5.2, fun y hy => hw.2 y (List.mem_cons_of_mem _ hy)⟩, ?_⟩⟩
    refine s_lessN (ρ' := [some (.d (stD st)), some (.t (st.bs.map bdD)), some (.t (st.js.map jtD)), some (.d (vcd st.u0 st.u1)), some (.k (plcM st.bs)), some (.d (jtD z))]) ⟨.inr rfl, .inr rfl, .inr rfl, .inr rfl, .inr rfl, .inl rfl, trivial⟩ ?_
    exact s_drop (e_callX (R := RJoint Tp.c_JointError) (ds := [.k (plcM st.bs), .d (jtD z)]) (by walk_at "ev") ⟨st.bs, z, rfl, hs.bs, hz, .inl ⟨h5.1, rfl⟩⟩)
  · refine .inr ⟨_, rfl, fun kk => s_any (s_seq (s_asgG (e_var rfl) (g_tup rfl (g_cons g_name (g_cons g_name (g_cons g_name g_nil))))) ?_)⟩
    exact s_stopR ret_fin (q_ifT (t_or (p_test (p_gt (i := ((st.bs.map bdD).length : Nat)) (j := 24) (p_lenT (p_cons (e_var rfl) a_nil)) e_int)) fun _ => p_test (p_gt (i := ((st.js.map jtD).length : Nat)) (j := 24) (p_lenT (p_cons (e_var rfl) a_nil)) e_int)) (by rw [el]; exact chk_1 h0) (s_raise' fun G H σ D gh io => hx _ rfl G H io))
  · obtain ⟨h1, h2⟩ := chk_2 h0
    refine .inr ⟨_, rfl, fun kk => s_any (s_seq (s_asgG (e_var rfl) (g_tup rfl (g_cons g_name (g_cons g_name (g_cons g_name g_nil))))) ?_)⟩
    refine q_skip (t_or (p_test (p_gt (i := ((st.bs.map bdD).length : Nat)) (j := 24) (p_lenT (p_cons (e_var rfl) a_nil)) e_int)) fun _ => p_test (p_gt (i := ((st.js.map jtD).length : Nat)) (j := 24) (p_lenT (p_cons (e_var rfl) a_nil)) e_int)) (by rw [el]; exact h1) ?_
    exact s_stopR ret_fin (s_dropE (e_callE (R := RBods Tp.c_BodyError) (ds := [.t (st.bs.map bdD)]) (L := .no) (d := .d .none) (by walk_at "ev") ⟨st.bs, rfl, hs.bs, .inr ⟨h2, rfl⟩⟩ fun G H io => hx _ rfl G H io) fun _ _ z => z)
  · obtain ⟨h1, h2, h3⟩ := chk_3 h0
    refine .inr ⟨_, rfl, fun kk => s_any (s_seq (s_asgG (e_var rfl) (g_tup rfl (g_cons g_name (g_cons g_name (g_cons g_name g_nil))))) ?_)⟩
    refine q_skip (t_or (p_test (p_gt (i := ((st.bs.map bdD).length : Nat)) (j := 24) (p_lenT (p_cons (e_var rfl) a_nil)) e_int)) fun _ => p_test (p_gt (i := ((st.js.map jtD).length : Nat)) (j := 24) (p_lenT (p_cons (e_var rfl) a_nil)) e_int)) (by rw [el]; exact h1) ?_
    refine s_seq (s_drop (e_callX (R := RBods Tp.c_BodyError) (ds := [.t (st.bs.map bdD)]) (by walk_at "ev") ⟨st.bs, rfl, hs.bs, .inl ⟨h2, rfl⟩⟩)) ?_
    exact s_stopR ret_fin (s_dropE (e_callE (tabs := Tp.tabs) (R := ROvl Tp.c_OverlapError) (ds := [.t (st.bs.map bdD)]) (L := .no) (d := .d .none) (by walk_at "ev") ⟨st.bs, rfl, hs.bs, hs.len, .inr ⟨h3, rfl⟩⟩ fun G H io => hx _ rfl G H io) fun _ _ z => z)
  · obtain ⟨h1, h2, h3, h4⟩ := chk_4 h0
    refine .inr ⟨_, rfl, fun kk => s_any (s_seq (s_asgG (e_var rfl) (g_tup rfl (g_cons g_name (g_cons g_name (g_cons g_name g_nil))))) ?_)⟩
    refine q_skip (t_or (p_test (p_gt (i := ((st.bs.map bdD).length : Nat)) (j := 24) (p_lenT (p_cons (e_var rfl) a_nil)) e_int)) fun _ => p_test (p_gt (i := ((st.js.map jtD).length : Nat)) (j := 24) (p_lenT (p_cons (e_var rfl) a_nil)) e_int)) (by rw [el]; exact h1) ?_
    refine s_seq (s_drop (e_callX (R := RBods Tp.c_BodyError) (ds := [.t (st.bs.map bdD)]) (by walk_at "ev") ⟨st.bs, rfl, hs.bs, .inl ⟨h2, rfl⟩⟩)) ?_
    refine s_seq (s_drop (e_callX (tabs := Tp.tabs) (R := ROvl Tp.c_OverlapError) (ds := [.t (st.bs.map bdD)]) (by walk_at "ev") ⟨st.bs, rfl, hs.bs, hs.len, .inl ⟨h3, rfl⟩⟩)) ?_
    refine q_asg (d := .k (plcM st.bs)) (p_call (R := RPlaces) (ds := [.t (st.bs.map bdD)]) (by walk_at "ev") ⟨st.bs, rfl, (badB_asc h2).2, hs.len, rfl⟩) ?_
    refine s_loopR1 (α := Unit) (bs := st.js) (f := fun _ z => jtD z) (fun _ rest _ => rest.any (jbad st.bs) = true ∧ ∀ z ∈ rest, JtOk z) (fun _ => [some (.d (stD st)), some (.t (st.bs.map bdD)), some (.t (st.js.map jtD)), some (.d (vcd st.u0 st.u1)), some (.k (plcM st.bs)), none]) (fun _ => I) () ⟨h4, hs.js⟩ (iw_t (e_var rfl)) (by rw [List.length_map]) (fun i z h => at0_map h) rfl (fun i z rest _ hw => ?_) (fun _ j hw => (by cases hw.1))
    have hz := hw.2 z List.mem_cons_self
    have h5 : (jbad st.bs z || rest.any (jbad st.bs)) = true := hw.1
    by_cases c : jbad st.bs z = true
    · exact ⟨_, g_name, .inr ⟨ret_fin, s_dropE (e_callE (R := RJoint Tp.c_JointError) (ds := [.k (plcM st.bs), .d (jtD z)]) (L := .no) (d := .d .none) (by walk_at "ev") ⟨st.bs, z, rfl, hs.bs, hz, .inr ⟨c, rfl⟩⟩ fun G H io => hx _ rfl G H io) fun _ _ z => z⟩⟩
    · have c := Bool.eq_false_iff.mpr c
      rw [c, Bool.false_or] at h5
      have h5 := And.intro c h5
      refine ⟨_, g_name, .inl ⟨(), ⟨h5.2, fun y hy => hw.2 y (List.mem_cons_of_mem _ hy)⟩, ?_⟩⟩
      refine s_lessN (ρ' := [some (.d (stD st)), some (.t (st.bs.map bdD)), some (.t (st.js.map jtD)), some (.d (vcd st.u0 st.u1)), some (.k (plcM st.bs)), some (.d (jtD z))]) ⟨.inr rfl, .inr rfl, .inr rfl, .inr rfl, .inr rfl, .inl rfl, trivial⟩ ?_
      exact s_drop (e_callX (R := RJoint Tp.c_JointError) (ds := [.k (plcM st.bs), .d (jtD z)]) (by walk_at "ev") ⟨st.bs, z, rfl, hs.bs, hz, .inl ⟨h5.1, rfl⟩⟩)
theorem fok_end_gap (Tp : Top K mg base) : FnOk P w K mg base CX0 5 Tp.f_end_gap Tp.d_end_gap ["one", "other", "axis"] (spP K REg) := by
  have G_in_line := fok_in_line (P := P) (w := w) (base := base) Tp
  have G_minus := fok_minus (P := P) (w := w) (base := base) Tp
  have G_plus := fok_plus (P := P) (w := w) (base := base) Tp
  have G_gap_of_items := fok_gap_of_items (P := P) (w := w) (base := base) Tp
  refine Tp.F_end_gap.ok sc_end_gap (fun vs H Q E h => len_P (fun _ _ ⟨_, _, _, e, _⟩ => by rw [e]; rfl) h) (fun cdv A outer s H vs Q E hr h => ?_)
  refine ⟨_, (pss_cons (ps_asg (pe_call G_in_line (hr.mono (by decide)) (by rfl) Tp.g_in_line Tp.F_in_line.kp Tp.b_in_line .nil pass0 (pa_cons (pv 0) (pa_cons (pv 1) (pa_cons (pv 2) pa_nil)))) (pg_tup rfl (pgs_cons (pg_name (i := 3) sc_end_gap.nd rfl (.inl rfl)) (pgs_cons (pg_name (i := 4) sc_end_gap.nd rfl (.inl rfl)) pgs_nil))))
      (pss_cons (ps_set (i := 5) sc_end_gap.nd rfl (.inl rfl) (pe_call G_minus (hr.mono (by decide)) (by rfl) Tp.g_minus Tp.F_minus.kp Tp.b_minus .nil pass0 (pa_cons (pe_ix (r := rIxT K) ix_tup (pe_ix (r := rIxT K) ix_tup (pv 4) pe_int (fun _ _ => rfl)) (pv 2) (fun _ _ => rfl)) (pa_cons (pe_ix (r := rIxT K) ix_tup (pe_ix (r := rIxT K) ix_tup (pv 3) pe_int (fun _ _ => rfl)) (pv 2) (fun _ _ => rfl)) pa_nil))))
      (pss_one (ps_ret (pe_call G_plus (hr.mono (by decide)) (by rfl) Tp.g_plus Tp.F_plus.kp Tp.b_plus .nil pass0 (pa_cons (pe_call G_gap_of_items (hr.mono (by decide)) (by rfl) Tp.g_gap_of_items Tp.F_gap_of_items.kp Tp.b_gap_of_items .nil pass0 (pa_cons (pv 0) (pa_cons (pv 1) (pa_cons (pv 2) pa_nil)))) (pa_cons (pv 5) pa_nil))))))), body_P ?_ h⟩
  refine fun ds d r I => ?_
  obtain ⟨x, y, k, rfl, hx, hy, hk, rfl⟩ := r
  walk_at "norm"
  
  obtain ⟨hb, hf⟩ := inl_ok hx hy k
  unfold egM
  obtain ⟨bh, ebh⟩ : ∃ z, z = (inlM x y k).1 := ⟨_, rfl⟩
  obtain ⟨ft, eft⟩ : ∃ z, z = (inlM x y k).2 := ⟨_, rfl⟩
  rw [← ebh] at hb ⊢
  rw [← eft] at hf ⊢
  refine s_seq (s_asgG (x := .tuple [itD bh, itD ft]) (e_is (p_call (R := RInl) (ds := [.d (itD x), .d (itD y), .i k]) (by walk_at "ev") ⟨x, y, k, rfl, hx, hy, hk, rfl⟩) (by rw [← ebh, ← eft])) (g_tup rfl (g_cons g_name (g_cons g_name g_nil)))) ?_
  refine q_asg (d := .d (fr (minusM (axv k ft.v) (axv k bh.v)))) (p_call (R := RPlus minusM) (ds := [.d (fr (axv k ft.v)), .d (fr (axv k bh.v))]) (p_cons (p_ixT (ds := [fr ft.v.1, fr ft.v.2]) (i := k) (p_i2 (e_var rfl)) (e_var rfl) (ax_at hk)) (p_cons (p_ixT (ds := [fr bh.v.1, fr bh.v.2]) (i := k) (p_i2 (e_var rfl)) (e_var rfl) (ax_at hk)) a_nil)) (RPlus.mk (hf.v k) (hb.v k))) ?_
  exact p_ret (p_call (R := RPlus plusM) (ds := [.d (fr (gapX x.b.bx y.b.bx k)), .d (fr (minusM (axv k ft.v) (axv k bh.v)))]) (p_cons (p_call (R := RGapI) (ds := [.d (itD x), .d (itD y), .i k]) (by walk_at "ev") ⟨x, y, k, rfl, hx, hy, hk, rfl⟩) (p_cons (e_var rfl) a_nil)) (RPlus.mk (gap_ok hx hy hk) (PL.ok_minus (hf.v k) (hb.v k))))
theorem fok_task_of (Tp : Top K mg base) : FnOk P w K mg base CX0 5 Tp.f_task_of Tp.d_task_of ["state", "pushes", "rows"] (spP K RTask1) := by
  have G_items_of := fok_items_of (P := P) (w := w) (base := base) Tp
  have G_is_moving := fok_is_moving (P := P) (w := w) (base := base) Tp
  have G_lines_of_rows := fok_lines_of_rows (P := P) (w := w) (base := base) Tp
  refine Tp.F_task_of.ok sc_task_of (fun vs H Q E h => len_P (fun _ _ ⟨_, _, _, _, _, _, e, _⟩ => by rw [e]; rfl) h) (fun cdv A outer s H vs Q E hr h => ?_)
  refine ⟨_, (pss_cons (ps_set (i := 3) sc_task_of.nd rfl (.inl rfl) (pe_lst pa_nil))
      (pss_cons (ps_set (i := 4) sc_task_of.nd rfl (.inl rfl) (pe_lst pa_nil))
      (pss_cons (ps_for PassesOwn.never rfl (pi_list (pe_call G_items_of (hr.mono (by decide)) (by rfl) Tp.g_items_of Tp.F_items_of.kp Tp.b_items_of .nil pass0 (pa_cons (pv 0) (pa_cons (pv 1) pa_nil)))) (pg_tup rfl (pgs_cons (pg_name (i := 5) sc_task_of.nd rfl (.inl rfl)) (pgs_cons (pg_name (i := 6) sc_task_of.nd rfl (.inl rfl)) (pgs_cons (pg_name (i := 7) sc_task_of.nd rfl (.inl rfl)) pgs_nil)))) (pss_one (ps_if (pt_val (pe_call G_is_moving (hr.mono (by decide)) (by rfl) Tp.g_is_moving Tp.F_is_moving.kp Tp.b_is_moving .nil pass0 (pa_cons (pv 5) pa_nil))) (pss_cons (ps_expr (pe_bm PySem.F.plainAttrs_list PySem.F.slot_list_extend PySem.F.type_list_extend mt_extend (pv 3) (pa_cons (pe_lst (pa_cons (pe_ix (r := rIxT K) ix_tup (pv 5) pe_int (fun _ _ => rfl)) (pa_cons (pe_ix (r := rIxT K) ix_tup (pv 5) pe_int (fun _ _ => rfl)) pa_nil))) pa_nil)))
      (pss_one (ps_expr (pe_bm PySem.F.plainAttrs_list PySem.F.slot_list_extend PySem.F.type_list_extend mt_extend (pv 4) (pa_cons (pe_lst (pa_cons (pe_ix (r := rIxT K) ix_tup (pv 7) pe_int (fun _ _ => rfl)) (pa_cons (pe_ix (r := rIxT K) ix_tup (pv 7) pe_int (fun _ _ => rfl)) pa_nil))) pa_nil))))) pss_nil)))
      (pss_one (ps_ret (pe_tup (pa_cons (pe_callTy call_tuple_of (by rfl) Tp.n_tuple (by decide +kernel) (pa_cons (pv 3) pa_nil)) (pa_cons (pe_callTy call_tuple_of (by rfl) Tp.n_tuple (by decide +kernel) (pa_cons (pv 4) pa_nil)) (pa_cons (pe_call G_lines_of_rows (hr.mono (by decide)) (by rfl) Tp.g_lines_of_rows Tp.F_lines_of_rows.kp Tp.b_lines_of_rows .nil pass0 (pa_cons (pv 0) (pa_cons (pv 2) pa_nil))) pa_nil))))))))), body_P ?_ h⟩
  refine fun ds d r I => ?_
  obtain ⟨p0, p1, v0, v1, u0, u1, rfl, h, rfl⟩ := r
  walk_at "norm"
  refine s_newL fun q1 hq1 => ?_
  refine s_newL fun q2 hq2 => ?_
  have n2 : q2 ≠ q1 := fun z => hq2 (.inl z)
  have n3 : ¬ I.foot q2 := fun z => hq2 (.inr z)
  refine s_for1S (ρ1 := [some (.d (stD (sta1 p0 p1 v0 v1 u0 u1))), some (.u []), some (.t []), some (.r q1), some (.r q2), none, none, none]) (J := lJ K q2 [fr (frV v0 u0), fr (frV v1 u1)] (lJ K q1 [.int 2, .int 2] I)) (e_iwn (iw_l (ds := [itD (itM (sta1 p0 p1 v0 v1 u0 u1) [] (bd1 p0 p1 v0 v1))]) (e_call (T := noT) (R := RItems) (ds := [.d (stD (sta1 p0 p1 v0 v1 u0 u1)), .u []]) (a_cons (e_var rfl) (a_cons (e_var rfl) a_nil)) ⟨sta1 p0 p1 v0 v1 u0 u1, [], rfl, h.sta, h.pu, rfl⟩)) rfl) rfl ⟨_, g_tup rfl (g_cons g_name (g_cons g_name (g_cons g_name g_nil))), ?_⟩ ?_
  · refine s_lessN (ρ' := [some (.d (stD (sta1 p0 p1 v0 v1 u0 u1))), some (.u []), some (.t []), some (.r q1), some (.r q2), some (.d (bdD (bd1 p0 p1 v0 v1))), some (.d (endD (bd1 p0 p1 v0 v1).bx)), some (.d (vcd (frV v0 u0) (frV v1 u1)))]) ⟨.inr rfl, .inr rfl, .inr rfl, .inr rfl, .inr rfl, .inl rfl, .inl rfl, .inl rfl, trivial⟩ ?_
    refine s_ifT (t_is (t_B (p_call (R := RMoving) (ds := [.d (bdD (bd1 p0 p1 v0 v1))]) (p_cons (e_var (i := 5) rfl) a_nil) ⟨bd1 p0 p1 v0 v1, rfl, rfl⟩)) rfl) ?_
    refine s_seq (s_swap (s_swapN (s_ext (ds := []) (es := [.int 2, .int 2]) (e_lstL (a_cons (e_ixT (j := 3) (e_var (i := 5) rfl) e_int rfl) (a_cons (e_ixT (j := 3) (e_var (i := 5) rfl) e_int rfl) a_nil)) (.cons (.cons .nil)) (by show 2 ≤ 100000; decide)) rfl (show 2 ≤ 100000 by decide) (fun z => z.elim (fun y => n2 y.symm) hq1)))) ?_
    exact s_ext (ds := []) (es := [fr (frV v0 u0), fr (frV v1 u1)]) (e_lstL (a_cons (e_ixT (j := 0) (e_var (i := 7) rfl) e_int rfl) (a_cons (e_ixT (j := 1) (e_var (i := 7) rfl) e_int rfl) a_nil)) (.cons (.cons .nil)) (by show 2 ≤ 100000; decide)) rfl (show 2 ≤ 100000 by decide) hq2
  · refine s_freeze (i := 4) rfl hq2 (s_freeze (i := 3) rfl hq1 ?_)
    exact p_ret (p_tup (ds := [.t [.int 2, .int 2], .t [fr (frV v0 u0), fr (frV v1 u1)], .t []]) (p_cons (e_tupOf (p_cons (e_var (i := 3) rfl) a_nil)) (p_cons (e_tupOf (p_cons (e_var (i := 4) rfl) a_nil)) (p_cons (p_call (R := RLines1) (ds := [.d (stD (sta1 p0 p1 v0 v1 u0 u1)), .t []]) (p_cons (e_var (i := 0) rfl) (p_cons (e_var (i := 2) rfl) a_nil)) ⟨p0, p1, v0, v1, u0, u1, rfl, rfl⟩) a_nil))) (.cons (.cons (.cons .nil))) (show 3 ≤ 100000 by decide))
theorem fok_check_pushes (Tp : Top K mg base) : FnOk P w K mg base (L2.CX P w) 6 Tp.f_check_pushes Tp.d_check_pushes ["state", "pushes"] (spXT K Tp.tabs (RPushes Tp.c_TooLarge Tp.c_BodyError Tp.c_OverlapError Tp.c_JointError Tp.c_PushError)) := by
  have G_check_state := fok_check_state (P := P) (w := w) (base := base) Tp
  have G_check_pushed := fok_check_pushed (P := P) (w := w) (base := base) Tp
  refine Tp.F_check_pushes.okX sc_check_pushes (fun vs H Q E h => len_X (fun _ _ ⟨_, _, e, _⟩ => by rw [e]; rfl) h) (fun cdv A outer s H vs Q E hr h => ?_)
  refine ⟨_, (pss_cons (ps_expr (pe_call G_check_state (hr.mono (by decide)) (by rfl) Tp.g_check_state Tp.F_check_state.kp Tp.b_check_state .nil (passes_call (takes_of rfl rfl rfl rfl) (fun _ _ _ _ z => z)) (pa_cons (pv 0) pa_nil)))
      (pss_one (ps_expr (pe_call G_check_pushed (hr.mono (by decide)) (by rfl) Tp.g_check_pushed Tp.F_check_pushed.kp Tp.b_check_pushed .nil (passes_call (takes_of rfl rfl rfl rfl) (fun _ _ _ _ z => z)) (pa_cons (pv 0) (pa_cons (pv 1) pa_nil)))))), body_XNT ?_ h⟩
  refine fun ds r hr I hT hx => ?_
  obtain ⟨st, ps, rfl, hs, hlp, hr⟩ := hr
  walk_at "norm"
  rcases hr with ⟨h0, h1, rfl⟩ | ⟨h0, h1, rfl⟩ | ⟨C, hc, rfl⟩
  · exact .inl ⟨rfl, _, s_seq (s_drop (e_callX (tabs := Tp.tabs) (R := RChk Tp.c_TooLarge Tp.c_BodyError Tp.c_OverlapError Tp.c_JointError) (ds := [.d (stD st)]) (d := .d .none) (by walk_at "ev") ⟨st, rfl, hs, .inl ⟨h0, rfl⟩⟩)) (s_drop (e_callX (R := RPushed Tp.c_PushError) (ds := [.d (stD st), .t (ps.map puD)]) (d := .d .none) (by walk_at "ev") ⟨st, ps, rfl, (badB_asc (chk_0 h0).2.1).2, hs.len, hlp, .inl ⟨h1, rfl⟩⟩))⟩
  · exact .inr ⟨_, rfl, fun k => s_any (s_seq (s_drop (e_callX (tabs := Tp.tabs) (R := RChk Tp.c_TooLarge Tp.c_BodyError Tp.c_OverlapError Tp.c_JointError) (ds := [.d (stD st)]) (d := .d .none) (by walk_at "ev") ⟨st, rfl, hs, .inl ⟨h0, rfl⟩⟩)) (s_dropE (e_callE (R := RPushed Tp.c_PushError) (ds := [.d (stD st), .t (ps.map puD)]) (L := .no) (d := .d .none) (by walk_at "ev") ⟨st, ps, rfl, (badB_asc (chk_0 h0).2.1).2, hs.len, hlp, .inr ⟨h1, rfl⟩⟩ fun G H io => hx _ rfl G H io) fun _ _ z => z))⟩
  · exact .inr ⟨_, rfl, fun k => s_any (s_stopR ret_fin (s_dropE (e_callE (tabs := Tp.tabs) (R := RChk Tp.c_TooLarge Tp.c_BodyError Tp.c_OverlapError Tp.c_JointError) (ds := [.d (stD st)]) (L := .no) (d := .d .none) (by walk_at "ev") ⟨st, rfl, hs, chk_any hc⟩ fun G H io => hx _ rfl G H io) fun _ _ z => z))⟩
theorem fok_axis_of_items (Tp : Top K mg base) : FnOk P w K mg base CX0 6 Tp.f_axis_of_items Tp.d_axis_of_items ["one", "other"] (spP K RAxI) := by
  have G_compare := fok_compare (P := P) (w := w) (base := base) Tp
  have G_gap_of_items := fok_gap_of_items (P := P) (w := w) (base := base) Tp
  have G_end_gap := fok_end_gap (P := P) (w := w) (base := base) Tp
  refine Tp.F_axis_of_items.ok sc_axis_of_items (fun vs H Q E h => len_P (fun _ _ ⟨_, _, e, _⟩ => by rw [e]; rfl) h) (fun cdv A outer s H vs Q E hr h => ?_)
  refine ⟨_, (pss_cons (ps_if (pt_cmpR op_lt (pe_ix (r := rIxT K) ix_tup (pe_call G_gap_of_items (hr.mono (by decide)) (by rfl) Tp.g_gap_of_items Tp.F_gap_of_items.kp Tp.b_gap_of_items .nil pass0 (pa_cons (pv 0) (pa_cons (pv 1) (pa_cons pe_int pa_nil)))) pe_int (fun _ _ => rfl)) pe_int (nomark _)) (pss_one (ps_ret pe_int)) pss_nil)
      (pss_cons (ps_if (pt_cmpR op_lt (pe_ix (r := rIxT K) ix_tup (pe_call G_gap_of_items (hr.mono (by decide)) (by rfl) Tp.g_gap_of_items Tp.F_gap_of_items.kp Tp.b_gap_of_items .nil pass0 (pa_cons (pv 0) (pa_cons (pv 1) (pa_cons pe_int pa_nil)))) pe_int (fun _ _ => rfl)) pe_int (nomark _)) (pss_one (ps_ret pe_int)) pss_nil)
      (pss_cons (ps_if (pt_cmpR op_gt (pe_call G_compare (hr.mono (by decide)) (by rfl) Tp.g_compare Tp.F_compare.kp Tp.b_compare .nil pass0 (pa_cons (pe_call G_end_gap (hr.mono (by decide)) (by rfl) Tp.g_end_gap Tp.F_end_gap.kp Tp.b_end_gap .nil pass0 (pa_cons (pv 0) (pa_cons (pv 1) (pa_cons pe_int pa_nil)))) (pa_cons (pe_call G_end_gap (hr.mono (by decide)) (by rfl) Tp.g_end_gap Tp.F_end_gap.kp Tp.b_end_gap .nil pass0 (pa_cons (pv 0) (pa_cons (pv 1) (pa_cons pe_int pa_nil)))) pa_nil))) pe_int (nomark _)) (pss_one (ps_ret pe_int)) pss_nil)
      (pss_one (ps_ret pe_int))))), body_P ?_ h⟩
  refine fun ds d r I => ?_
  obtain ⟨x, y, rfl, hx, hy, rfl⟩ := r
  walk_at "norm"
  unfold axM
  by_cases c0 : (gapX x.b.bx y.b.bx 0).1 < 0
  · rw [if_pos c0]
    exact s_stop (q_ifT (p_test (p_lt (i := (gapX x.b.bx y.b.bx 0).1) (j := 0) (p_f1 (p_call (R := RGapI) (ds := [.d (itD x), .d (itD y), .i 0]) (by walk_at "ev") ⟨x, y, 0, rfl, hx, hy, Or.inl rfl, rfl⟩)) e_int)) (decide_eq_true c0) (p_ret e_int))
  rw [if_neg c0]
  refine q_skip (p_test (p_lt (i := (gapX x.b.bx y.b.bx 0).1) (j := 0) (p_f1 (p_call (R := RGapI) (ds := [.d (itD x), .d (itD y), .i 0]) (by walk_at "ev") ⟨x, y, 0, rfl, hx, hy, Or.inl rfl, rfl⟩)) e_int)) (decide_eq_false c0) ?_
  by_cases c1 : (gapX x.b.bx y.b.bx 1).1 < 0
  · rw [if_pos c1]
    exact s_stop (q_ifT (p_test (p_lt (i := (gapX x.b.bx y.b.bx 1).1) (j := 0) (p_f1 (p_call (R := RGapI) (ds := [.d (itD x), .d (itD y), .i 1]) (by walk_at "ev") ⟨x, y, 1, rfl, hx, hy, Or.inr rfl, rfl⟩)) e_int)) (decide_eq_true c1) (p_ret e_int))
  rw [if_neg c1]
  refine q_skip (p_test (p_lt (i := (gapX x.b.bx y.b.bx 1).1) (j := 0) (p_f1 (p_call (R := RGapI) (ds := [.d (itD x), .d (itD y), .i 1]) (by walk_at "ev") ⟨x, y, 1, rfl, hx, hy, Or.inr rfl, rfl⟩)) e_int)) (decide_eq_false c1) ?_
  by_cases c2 : 0 < cmpM (egM x y 1) (egM x y 0)
  · rw [if_pos c2]
    exact s_stop (q_ifT (p_test (p_gt (i := cmpM (egM x y 1) (egM x y 0)) (j := 0) (p_call (R := RCmp) (ds := [.d (fr (egM x y 1)), .d (fr (egM x y 0))]) (p_cons (p_call (R := REg) (ds := [.d (itD x), .d (itD y), .i 1]) (by walk_at "ev") ⟨x, y, 1, rfl, hx, hy, Or.inr rfl, rfl⟩) (p_cons (p_call (R := REg) (ds := [.d (itD x), .d (itD y), .i 0]) (by walk_at "ev") ⟨x, y, 0, rfl, hx, hy, Or.inl rfl, rfl⟩) a_nil)) ⟨_, _, rfl, (eg_ok hx hy (.inr rfl)).mono (by decide), (eg_ok hx hy (.inl rfl)).mono (by decide), rfl⟩) e_int)) (decide_eq_true c2) (p_ret e_int))
  rw [if_neg c2]
  exact q_skip (p_test (p_gt (i := cmpM (egM x y 1) (egM x y 0)) (j := 0) (p_call (R := RCmp) (ds := [.d (fr (egM x y 1)), .d (fr (egM x y 0))]) (p_cons (p_call (R := REg) (ds := [.d (itD x), .d (itD y), .i 1]) (by walk_at "ev") ⟨x, y, 1, rfl, hx, hy, Or.inr rfl, rfl⟩) (p_cons (p_call (R := REg) (ds := [.d (itD x), .d (itD y), .i 0]) (by walk_at "ev") ⟨x, y, 0, rfl, hx, hy, Or.inl rfl, rfl⟩) a_nil)) ⟨_, _, rfl, (eg_ok hx hy (.inr rfl)).mono (by decide), (eg_ok hx hy (.inl rfl)).mono (by decide), rfl⟩) e_int)) (decide_eq_false c2) (p_ret e_int)
theorem fok_rows_of_items (Tp : Top K mg base) : FnOk P w K mg base CX0 7 Tp.f_rows_of_items Tp.d_rows_of_items ["one", "other"] (spT K Tp.tabs RRowsI) := by
  have G_axis_of_items := fok_axis_of_items (P := P) (w := w) (base := base) Tp
  have G_gap_of_items := fok_gap_of_items (P := P) (w := w) (base := base) Tp
  have G_in_line := fok_in_line (P := P) (w := w) (base := base) Tp
  have G_least := fok_least (P := P) (w := w) (base := base) Tp
  have G_minus := fok_minus (P := P) (w := w) (base := base) Tp
  have G_parts_of := fok_parts_of (P := P) (w := w) (base := base) Tp
  refine Tp.F_rows_of_items.ok sc_rows_of_items (fun vs H Q E h => len_P (fun _ _ ⟨_, _, e, _⟩ => by rw [e]; rfl) h) (fun cdv A outer s H vs Q E hr h => ?_)
  refine ⟨_, (pss_cons (ps_set (i := 2) sc_rows_of_items.nd rfl (.inl rfl) (pe_call G_axis_of_items (hr.mono (by decide)) (by rfl) Tp.g_axis_of_items Tp.F_axis_of_items.kp Tp.b_axis_of_items .nil pass0 (pa_cons (pv 0) (pa_cons (pv 1) pa_nil))))
      (pss_cons (ps_set (i := 3) sc_rows_of_items.nd rfl (.inl rfl) (pe_call G_gap_of_items (hr.mono (by decide)) (by rfl) Tp.g_gap_of_items Tp.F_gap_of_items.kp Tp.b_gap_of_items .nil pass0 (pa_cons (pv 0) (pa_cons (pv 1) (pa_cons (pv 2) pa_nil)))))
      (pss_cons (ps_asg (pe_call G_in_line (hr.mono (by decide)) (by rfl) Tp.g_in_line Tp.F_in_line.kp Tp.b_in_line .nil pass0 (pa_cons (pv 0) (pa_cons (pv 1) (pa_cons (pv 2) pa_nil)))) (pg_tup rfl (pgs_cons (pg_name (i := 4) sc_rows_of_items.nd rfl (.inl rfl)) (pgs_cons (pg_name (i := 5) sc_rows_of_items.nd rfl (.inl rfl)) pgs_nil))))
      (pss_cons (ps_set (i := 6) sc_rows_of_items.nd rfl (.inl rfl) (pe_call G_least (hr.mono (by decide)) (by rfl) Tp.g_least Tp.F_least.kp Tp.b_least .nil pass0 (pa_cons (pe_tup (pa_cons (pe_ix (r := rIxT K) ix_tup (pe_ix (r := rIxT K) ix_tup (pv 0) pe_int (fun _ _ => rfl)) pe_int (fun _ _ => rfl)) (pa_cons (pe_ix (r := rIxT K) ix_tup (pe_ix (r := rIxT K) ix_tup (pv 1) pe_int (fun _ _ => rfl)) pe_int (fun _ _ => rfl)) pa_nil))) pa_nil)))
      (pss_cons (ps_set (i := 7) sc_rows_of_items.nd rfl (.inl rfl) (pe_lst (pa_cons (pe_tup (pa_cons (pe_ix (r := rIxT K) ix_tup (pv 5) pe_int (fun _ _ => rfl)) (pa_cons (pv 2) (pa_cons (pe_glob (v := .ref Tp.k_ONE) (by rfl) Tp.gk_ONE rfl) pa_nil)))) (pa_cons (pe_tup (pa_cons (pe_ix (r := rIxT K) ix_tup (pv 4) pe_int (fun _ _ => rfl)) (pa_cons (pv 2) (pa_cons (pe_glob (v := .ref Tp.k_MINUS_ONE) (by rfl) Tp.gk_MINUS_ONE rfl) pa_nil)))) pa_nil))))
      (pss_cons (ps_set (i := 8) sc_rows_of_items.nd rfl (.inl rfl) (pe_lst (pa_cons (pe_glob (v := .ref Tp.k_ZERO) (by rfl) Tp.gk_ZERO rfl) pa_nil)))
      (pss_cons (ps_if (PW.pt (pw_and (pt_cmpR (op_neD hr.units) (pv 6) (pe_glob (v := .ref Tp.k_ZERO) (by rfl) Tp.gk_ZERO rfl) (nomark _)) (pw_and (pt_cmpR (op_eqD hr.units) (pv 3) (pe_glob (v := .ref Tp.k_ZERO) (by rfl) Tp.gk_ZERO rfl) (nomark _)) (pw_and1 (pt_cmpR op_le (pe_ix (r := rIxT K) ix_tup (pe_call G_gap_of_items (hr.mono (by decide)) (by rfl) Tp.g_gap_of_items Tp.F_gap_of_items.kp Tp.b_gap_of_items .nil pass0 (pa_cons (pv 0) (pa_cons (pv 1) (pa_cons (pe_op op_sub pe_int (pv 2)) pa_nil)))) pe_int (fun _ _ => rfl)) pe_int (nomark _)))))) (pss_one (ps_set (i := 8) sc_rows_of_items.nd rfl (.inl rfl) (pe_lst (pa_cons (pv 6) (pa_cons (pe_call G_minus (hr.mono (by decide)) (by rfl) Tp.g_minus Tp.F_minus.kp Tp.b_minus .nil pass0 (pa_cons (pe_glob (v := .ref Tp.k_ZERO) (by rfl) Tp.gk_ZERO rfl) (pa_cons (pv 6) pa_nil))) pa_nil))))) pss_nil)
      (pss_cons (ps_set (i := 9) sc_rows_of_items.nd rfl (.inl rfl) (pe_lst pa_nil))
      (pss_cons (ps_for PassesOwn.never rfl (pi_enum (by rfl) Tp.n_enumerate (pa_cons (pv 8) pa_nil)) (pg_tup rfl (pgs_cons (pg_name (i := 10) sc_rows_of_items.nd rfl (.inl rfl)) (pgs_cons (pg_name (i := 11) sc_rows_of_items.nd rfl (.inl rfl)) pgs_nil))) (pss_cons (ps_set (i := 12) sc_rows_of_items.nd rfl (.inl rfl) (pe_lst (pa_cons (pe_tup (pa_cons (pe_ix (r := rIxT K) ix_tup (pv 5) pe_int (fun _ _ => rfl)) (pa_cons (pe_op op_sub pe_int (pv 2)) (pa_cons (pv 11) pa_nil)))) (pa_cons (pe_tup (pa_cons (pe_ix (r := rIxT K) ix_tup (pv 4) pe_int (fun _ _ => rfl)) (pa_cons (pe_op op_sub pe_int (pv 2)) (pa_cons (pe_call G_minus (hr.mono (by decide)) (by rfl) Tp.g_minus Tp.F_minus.kp Tp.b_minus .nil pass0 (pa_cons (pe_glob (v := .ref Tp.k_ZERO) (by rfl) Tp.gk_ZERO rfl) (pa_cons (pv 11) pa_nil))) pa_nil)))) pa_nil))))
      (pss_cons (ps_set (i := 13) sc_rows_of_items.nd rfl (.inl rfl) (pe_tup (pa_cons pe_str (pa_cons (pe_ix (r := rIxT K) ix_tup (pe_ix (r := rIxT K) ix_tup (pv 0) pe_int (fun _ _ => rfl)) pe_int (fun _ _ => rfl)) (pa_cons (pe_ix (r := rIxT K) ix_tup (pe_ix (r := rIxT K) ix_tup (pv 1) pe_int (fun _ _ => rfl)) pe_int (fun _ _ => rfl)) (pa_cons (pv 10) pa_nil))))))
      (pss_one (ps_expr (pe_bm PySem.F.plainAttrs_list PySem.F.slot_list_append PySem.F.type_list_append mt_append (pv 9) (pa_cons (pe_tup (pa_cons (pv 13) (pa_cons (pe_call G_parts_of (hr.mono (by decide)) (by rfl) Tp.g_parts_of Tp.F_parts_of.kp Tp.b_parts_of .nil pass0 (pa_cons (pe_op op_cat (pv 7) (pv 12)) pa_nil)) (pa_cons (pe_call G_minus (hr.mono (by decide)) (by rfl) Tp.g_minus Tp.F_minus.kp Tp.b_minus .nil pass0 (pa_cons (pe_glob (v := .ref Tp.k_ZERO) (by rfl) Tp.gk_ZERO rfl) (pa_cons (pv 3) pa_nil))) pa_nil)))) pa_nil)))))))
      (pss_one (ps_ret (pv 9)))))))))))), body_T ?_ h⟩
  refine fun ds d r I hT => ?_
  obtain ⟨x, y, rfl, hx, hy, hn, rfl⟩ := r
  walk_at "norm"
  have hk := axM_01 x y
  have hk1 : 1 - axM x y = 0 ∨ 1 - axM x y = 1 := by omega
  refine q_asg (d := .i (axM x y)) (p_call (R := RAxI) (ds := [.d (itD x), .d (itD y)]) (by walk_at "ev") ⟨x, y, rfl, hx, hy, rfl⟩) ?_
  refine q_asg (d := .d (fr (gapX x.b.bx y.b.bx (axM x y)))) (p_call (R := RGapI) (ds := [.d (itD x), .d (itD y), .i (axM x y)]) (by walk_at "ev") ⟨x, y, _, rfl, hx, hy, hk, rfl⟩) ?_
  obtain ⟨bh, ebh⟩ : ∃ z, z = (inlM x y (axM x y)).1 := ⟨_, rfl⟩
  obtain ⟨ft, eft⟩ : ∃ z, z = (inlM x y (axM x y)).2 := ⟨_, rfl⟩
  have hnm : ft.b.nm ≠ bh.b.nm := by rw [ebh, eft]; exact inl_nm hn
  have eN : nearM x y = [(ft.b, axM x y, (1, 1)), (bh.b, axM x y, (-1, 1))] := by unfold nearM; rw [← ebh, ← eft]
  have eS : ∀ s, slidM x y s = [(ft.b, 1 - axM x y, s), (bh.b, 1 - axM x y, minusM (0, 1) s)] := fun s => by unfold slidM; rw [← ebh, ← eft]
  refine s_seq (s_asgG (x := .tuple [itD bh, itD ft]) (e_is (p_call (R := RInl) (ds := [.d (itD x), .d (itD y), .i (axM x y)]) (by walk_at "ev") ⟨x, y, _, rfl, hx, hy, hk, rfl⟩) (by rw [← ebh, ← eft])) (g_tup rfl (g_cons g_name (g_cons g_name g_nil)))) ?_
  refine q_asg (d := .d (fr (grM x y))) (p_call (R := RBest less) (ds := [.t [fr x.b.gr, fr y.b.gr]]) (p_cons (p_tup2 (p_cons (p_ixT (i := 4) (x := fr x.b.gr) (p_i0 (e_var rfl)) e_int rfl) (p_cons (p_ixT (i := 4) (x := fr y.b.gr) (p_i0 (e_var rfl)) e_int rfl) a_nil))) a_nil) ⟨x.b.gr, [y.b.gr], rfl, two_in (hx.g.mono (by decide)) (hy.g.mono (by decide)), rfl⟩) ?_
  refine q_asg (d := .l ((nearM x y).map tmD)) (e_is (e_lstL (ds := [.d (tmD (ft.b, axM x y, (1, 1))), .d (tmD (bh.b, axM x y, (-1, 1)))]) (p_cons (p_tup (ds := [.d (bdD ft.b), .i (axM x y), .d (fr (1, 1))]) (p_cons (p_i0 (e_var rfl)) (p_cons (e_var rfl) (p_cons (e_glob (x := fr (1, 1)) fun G => .tup (Tp.dk_ONE G) (.cons (.int 1) (.cons (.int 1) .nil))) a_nil))) (.cons (.cons (.cons .nil))) (show 3 ≤ 100000 by decide)) (p_cons (p_tup (ds := [.d (bdD bh.b), .i (axM x y), .d (fr (-1, 1))]) (p_cons (p_i0 (e_var rfl)) (p_cons (e_var rfl) (p_cons (e_glob (x := fr (-1, 1)) fun G => .tup (Tp.dk_MINUS_ONE G) (.cons (.int (-1)) (.cons (.int 1) .nil))) a_nil))) (.cons (.cons (.cons .nil))) (show 3 ≤ 100000 by decide)) a_nil)) (.cons (.cons .nil)) (show 2 ≤ 100000 by decide)) (by rw [eN]; rfl)) ?_
  refine q_asg (d := .l [fr (0, 1)]) (e_lstL (ds := [.d (fr (0, 1))]) (p_cons (e_glob (x := fr (0, 1)) fun G => .tup (Tp.dk_ZERO G) (.cons (.int 0) (.cons (.int 1) .nil))) a_nil) (.cons .nil) (show 1 ≤ 100000 by decide)) ?_
  refine s_seq (ρ1 := [some (.d (itD x)), some (.d (itD y)), some (.i (axM x y)), some (.d (fr (gapX x.b.bx y.b.bx (axM x y)))), some (.d (itD bh)), some (.d (itD ft)), some (.d (fr (grM x y))), some (.l ((nearM x y).map tmD)), some (.l ((slM x y).map fr)), none, none, none, none, none]) (J := I) ?_ ?_
  · have eT : ((!PyData.eqv (fr (grM x y)) (fr (0, 1))) && (PyData.eqv (fr (gapX x.b.bx y.b.bx (axM x y))) (fr (0, 1)) && decide ((gapX x.b.bx y.b.bx (1 - axM x y)).1 ≤ 0))) = tiltM x y := by
      rw [eqv_frd2, eqv_frd2]
      rfl
    unfold slM
    by_cases c : tiltM x y = true
    · rw [if_pos c]
      refine s_ifT (t_is (t_and (p_test (p_neD (x := fr (grM x y)) (y := fr (0, 1)) (e_var rfl) (e_glob (x := fr (0, 1)) fun G => .tup (Tp.dk_ZERO G) (.cons (.int 0) (.cons (.int 1) .nil))) rfl rfl)) fun _ => t_and (p_test (p_eqD (x := fr (gapX x.b.bx y.b.bx (axM x y))) (y := fr (0, 1)) (e_var rfl) (e_glob (x := fr (0, 1)) fun G => .tup (Tp.dk_ZERO G) (.cons (.int 0) (.cons (.int 1) .nil))) rfl rfl)) fun _ => p_test (p_le (i := (gapX x.b.bx y.b.bx (1 - axM x y)).1) (j := 0) (p_f1 (p_call (R := RGapI) (ds := [.d (itD x), .d (itD y), .i (1 - axM x y)]) (p_cons (e_var rfl) (p_cons (e_var rfl) (p_cons (p_sub e_int (e_var rfl)) a_nil))) ⟨x, y, _, rfl, hx, hy, hk1, rfl⟩)) e_int)) (by rw [eT, c])) (p_asg (e_lstL (ds := [.d (fr (grM x y)), .d (fr (minusM (0, 1) (grM x y)))]) (p_cons (e_var rfl) (p_cons (p_call (R := RPlus minusM) (ds := [.d (fr (0, 1)), .d (fr (grM x y))]) (p_cons (e_glob (x := fr (0, 1)) fun G => .tup (Tp.dk_ZERO G) (.cons (.int 0) (.cons (.int 1) .nil))) (p_cons (e_var rfl) a_nil)) (RPlus.mk (ok_c0 (n := 2) (by decide)) (gr_ok hx hy))) a_nil)) (.cons (.cons .nil)) (show 2 ≤ 100000 by decide)))
    · rw [if_neg c]
      exact s_ifF (t_is (t_and (p_test (p_neD (x := fr (grM x y)) (y := fr (0, 1)) (e_var rfl) (e_glob (x := fr (0, 1)) fun G => .tup (Tp.dk_ZERO G) (.cons (.int 0) (.cons (.int 1) .nil))) rfl rfl)) fun _ => t_and (p_test (p_eqD (x := fr (gapX x.b.bx y.b.bx (axM x y))) (y := fr (0, 1)) (e_var rfl) (e_glob (x := fr (0, 1)) fun G => .tup (Tp.dk_ZERO G) (.cons (.int 0) (.cons (.int 1) .nil))) rfl rfl)) fun _ => p_test (p_le (i := (gapX x.b.bx y.b.bx (1 - axM x y)).1) (j := 0) (p_f1 (p_call (R := RGapI) (ds := [.d (itD x), .d (itD y), .i (1 - axM x y)]) (p_cons (e_var rfl) (p_cons (e_var rfl) (p_cons (p_sub e_int (e_var rfl)) a_nil))) ⟨x, y, _, rfl, hx, hy, hk1, rfl⟩)) e_int)) (by rw [eT, Bool.eq_false_iff.mpr c])) s_next
  refine s_newL fun q hq => ?_
  have hsl := sl_len x y
  refine s_loopR (α := List Rw) (bs := slM x y) (f := fun i s => .tuple [.int (i : Nat), fr s]) (fun i rest a => i + rest.length = (slM x y).length ∧ (∀ s ∈ rest, s ∈ slM x y) ∧ a.length ≤ i ∧ a ++ rwGo x y i rest = rwI x y) (fun a => [some (.d (itD x)), some (.d (itD y)), some (.i (axM x y)), some (.d (fr (gapX x.b.bx y.b.bx (axM x y)))), some (.d (itD bh)), some (.d (itD ft)), some (.d (fr (grM x y))), some (.l ((nearM x y).map tmD)), some (.l ((slM x y).map fr)), some (.r q), none, none, none, none]) (fun a => lJ K q (a.map rwD) I) [] ⟨by omega, fun s h => h, Nat.le_refl _, rfl⟩ (iw_e (ds := (slM x y).map fr) (p_cons (e_l2d (e_var rfl)) a_nil)) (by rw [List.length_map]) (fun i z h => by rw [at0_map h]) rfl (fun i s rest a hw => ?_) (fun a i hw => ?_)
  rotate_left
  · obtain ⟨_, _, _, h4⟩ := hw
    have h5 : a ++ [] = rwI x y := h4
    rw [List.append_nil] at h5
    rw [h5]
    exact s_freezeL (i := 9) rfl hq (p_ret (e_var rfl))
  obtain ⟨h1, h2, h3, h4⟩ := hw
  have hi : i < 2 := by rw [List.length_cons] at h1; omega
  have hs := sl_ok hx hy s (h2 s List.mem_cons_self)
  refine ⟨_, g_tup rfl (g_cons g_name (g_cons g_name g_nil)), .inl ⟨a ++ [rwS x y i s], ⟨by rw [List.length_cons] at h1; omega, fun z hz => h2 z (List.mem_cons_of_mem _ hz), by rw [List.length_append, List.length_singleton]; omega, by rw [← h4, List.append_assoc]; rfl⟩, ?_⟩⟩
  rw [List.map_append]
  refine s_lessN (ρ' := [some (.d (itD x)), some (.d (itD y)), some (.i (axM x y)), some (.d (fr (gapX x.b.bx y.b.bx (axM x y)))), some (.d (itD bh)), some (.d (itD ft)), some (.d (fr (grM x y))), some (.l ((nearM x y).map tmD)), some (.l ((slM x y).map fr)), some (.r q), some (.i (i : Nat)), some (.d (fr s)), some (.l ((slidM x y s).map tmD)), some (.d (rwS x y i s).nm)]) ⟨.inr rfl, .inr rfl, .inr rfl, .inr rfl, .inr rfl, .inr rfl, .inr rfl, .inr rfl, .inr rfl, .inr rfl, .inl rfl, .inl rfl, .inl rfl, .inl rfl, trivial⟩ ?_
  refine q_asg (d := .l ((slidM x y s).map tmD)) (e_is (e_lstL (ds := [.d (tmD (ft.b, 1 - axM x y, s)), .d (tmD (bh.b, 1 - axM x y, minusM (0, 1) s))]) (p_cons (p_tup (ds := [.d (bdD ft.b), .i (1 - axM x y), .d (fr s)]) (p_cons (p_i0 (e_var rfl)) (p_cons (p_sub e_int (e_var rfl)) (p_cons (e_var rfl) a_nil))) (.cons (.cons (.cons .nil))) (show 3 ≤ 100000 by decide)) (p_cons (p_tup (ds := [.d (bdD bh.b), .i (1 - axM x y), .d (fr (minusM (0, 1) s))]) (p_cons (p_i0 (e_var rfl)) (p_cons (p_sub e_int (e_var rfl)) (p_cons (p_call (R := RPlus minusM) (ds := [.d (fr (0, 1)), .d (fr s)]) (p_cons (e_glob (x := fr (0, 1)) fun G => .tup (Tp.dk_ZERO G) (.cons (.int 0) (.cons (.int 1) .nil))) (p_cons (e_var rfl) a_nil)) (RPlus.mk (ok_c0 (n := 2) (by decide)) hs)) a_nil))) (.cons (.cons (.cons .nil))) (show 3 ≤ 100000 by decide)) a_nil)) (.cons (.cons .nil)) (show 2 ≤ 100000 by decide)) (by rw [eS]; rfl)) ?_
  refine q_asg (d := .t [.str "apart", .int x.b.nm, .int y.b.nm, .int (i : Nat)]) (p_tup (ds := [.d (.str "apart"), .i x.b.nm, .i y.b.nm, .i (i : Nat)]) (p_cons e_str (p_cons (p_i0 (p_i0 (e_var rfl))) (p_cons (p_i0 (p_i0 (e_var rfl))) (p_cons (e_var rfl) a_nil)))) (.cons (.cons (.cons (.cons .nil)))) (show 4 ≤ 100000 by decide)) ?_
  have eA : nearM x y ++ slidM x y s = [(ft.b, axM x y, (1, 1)), (bh.b, axM x y, (-1, 1)), (ft.b, 1 - axM x y, s), (bh.b, 1 - axM x y, minusM (0, 1) s)] := by rw [eN, eS]; rfl
  exact s_app (x := rwD (rwS x y i s)) (p_tup (ds := [.d (rwS x y i s).nm, .t ((rwS x y i s).ps.map paD), .d (fr (rwS x y i s).bd)]) (p_cons (e_var rfl) (p_cons (p_call (R := RParts) (ds := [.d (.list ((nearM x y ++ slidM x y s).map tmD))]) (p_cons (e_is (e_l2d (e_cat (ds := (nearM x y).map tmD) (es := (slidM x y s).map tmD) (e_var rfl) (e_var rfl) (by rw [eN, eS]; exact (by decide : (2 + 2 : Nat) ≤ 100000)))) (by rw [← List.map_append])) a_nil) ⟨_, rfl, by rw [eA]; exact (by decide : (4 : Nat) ≤ 1000), parts_keys (by rw [eA]; exact four_nd hnm hk), rfl⟩) (p_cons (p_call (R := RPlus minusM) (ds := [.d (fr (0, 1)), .d (fr (gapX x.b.bx y.b.bx (axM x y)))]) (p_cons (e_glob (x := fr (0, 1)) fun G => .tup (Tp.dk_ZERO G) (.cons (.int 0) (.cons (.int 1) .nil))) (p_cons (e_var rfl) a_nil)) (RPlus.mk (ok_c0 (n := 2) (by decide)) (gap_ok hx hy hk))) a_nil))) (.cons (.cons (.cons .nil))) (show 3 ≤ 100000 by decide)) rfl (by rw [List.length_map]; omega) hq
theorem fok_full_rows (Tp : Top K mg base) : FnOk P w K mg base CX0 8 Tp.f_full_rows Tp.d_full_rows ["state", "pushes"] (spT K Tp.tabs RFull) := by
  have G_pairs_of := fok_pairs_of (P := P) (w := w) (base := base) Tp
  have G_items_of := fok_items_of (P := P) (w := w) (base := base) Tp
  have G_rows_of_joints := fok_rows_of_joints (P := P) (w := w) (base := base) Tp
  have G_rows_of_items := fok_rows_of_items (P := P) (w := w) (base := base) Tp
  refine Tp.F_full_rows.ok sc_full_rows (fun vs H Q E h => len_P (fun _ _ ⟨_, _, e, _⟩ => by rw [e]; rfl) h) (fun cdv A outer s H vs Q E hr h => ?_)
  refine ⟨_, (pss_cons (ps_set (i := 2) sc_full_rows.nd rfl (.inl rfl) (pe_lst pa_nil))
      (pss_cons (ps_for PassesOwn.never rfl (pi_list (pe_call G_pairs_of (hr.mono (by decide)) (by rfl) Tp.g_pairs_of Tp.F_pairs_of.kp Tp.b_pairs_of .nil pass0 (pa_cons (pe_call G_items_of (hr.mono (by decide)) (by rfl) Tp.g_items_of Tp.F_items_of.kp Tp.b_items_of .nil pass0 (pa_cons (pv 0) (pa_cons (pv 1) pa_nil))) pa_nil))) (pg_tup rfl (pgs_cons (pg_name (i := 3) sc_full_rows.nd rfl (.inl rfl)) (pgs_cons (pg_name (i := 4) sc_full_rows.nd rfl (.inl rfl)) pgs_nil))) (pss_one (ps_expr (pe_bm PySem.F.plainAttrs_list PySem.F.slot_list_extend PySem.F.type_list_extend mt_extend (pv 2) (pa_cons (pe_call G_rows_of_items (hr.mono (by decide)) (by rfl) Tp.g_rows_of_items Tp.F_rows_of_items.kp Tp.b_rows_of_items .nil pass0 (pa_cons (pv 3) (pa_cons (pv 4) pa_nil))) pa_nil)))))
      (pss_one (ps_ret (pe_op op_cat (pv 2) (pe_call G_rows_of_joints (hr.mono (by decide)) (by rfl) Tp.g_rows_of_joints Tp.F_rows_of_joints.kp Tp.b_rows_of_joints .nil pass0 (pa_cons (pv 0) pa_nil))))))), body_T ?_ h⟩
  refine fun ds d r I hT => ?_
  obtain ⟨st, ps, rfl, h, rfl⟩ := r
  walk_at "norm"
  have hpl := prsM_len (st.bs.map (itM st ps)) (by rw [List.length_map]; exact h.j.len)
  have hbl := h.j.len
  have hok := prsM_ok h
  refine s_newL fun q hq => ?_
  refine s_loopR (α := List Rw) (bs := prsM (st.bs.map (itM st ps))) (f := fun _ p => prD p) (fun i rest a => i + rest.length = (prsM (st.bs.map (itM st ps))).length ∧ (∀ p ∈ rest, p ∈ prsM (st.bs.map (itM st ps))) ∧ a.length ≤ 2 * i ∧ a ++ rest.flatMap (fun p => rwI p.1 p.2) = (prsM (st.bs.map (itM st ps))).flatMap (fun p => rwI p.1 p.2)) (fun a => [some (.d (stD st)), some (.u (ps.map puD)), some (.r q), none, none]) (fun a => lJ K q (a.map rwD) I) [] ⟨by omega, fun s h => h, Nat.le_refl _, rfl⟩ (iw_l (ds := (prsM (st.bs.map (itM st ps))).map prD) (p_call (R := RPairsI) (ds := [.d (.list ((st.bs.map (itM st ps)).map itD))]) (p_cons (p_call (R := RItems) (ds := [.d (stD st), .u (ps.map puD)]) (p_cons (e_var rfl) (p_cons (e_var rfl) a_nil)) ⟨st, ps, rfl, h.s, h.p, rfl⟩) a_nil) ⟨_, rfl, by rw [List.length_map]; omega, rfl⟩)) (by rw [List.length_map]) (fun i z h => at0_map h) rfl (fun i p rest a hw => ?_) (fun a i hw => ?_)
  rotate_left
  · obtain ⟨_, _, _, h4⟩ := hw
    have h5 : a ++ [] = (prsM (st.bs.map (itM st ps))).flatMap (fun p => rwI p.1 p.2) := h4
    rw [List.append_nil] at h5
    have hl := fullM_len h
    unfold fullM at hl ⊢
    rw [← h5] at hl ⊢
    rw [List.map_append]
    refine s_freezeL (i := 2) rfl hq (p_ret (e_cat (e_var rfl) (p_call (R := RRowsJ) (ds := [.d (stD st)]) (by walk_at "ev") ⟨st, rfl, h.s, h.j, rfl⟩) ?_))
    rw [List.length_append] at hl
    rw [List.length_map, List.length_map]
    omega
  obtain ⟨h1, h2, h3, h4⟩ := hw
  have hi : i < 576 := by rw [List.length_cons] at h1; omega
  obtain ⟨k1, k2, k3⟩ := hok p (h2 p List.mem_cons_self)
  have hrl := rwI_len p.1 p.2
  refine ⟨_, g_tup rfl (g_cons g_name (g_cons g_name g_nil)), .inl ⟨a ++ rwI p.1 p.2, ⟨by rw [List.length_cons] at h1; omega, fun z hz => h2 z (List.mem_cons_of_mem _ hz), by rw [List.length_append]; omega, by rw [← h4, List.append_assoc, List.flatMap_cons]⟩, ?_⟩⟩
  rw [List.map_append]
  refine s_lessN (ρ' := [some (.d (stD st)), some (.u (ps.map puD)), some (.r q), some (.d (itD p.1)), some (.d (itD p.2))]) ⟨.inr rfl, .inr rfl, .inr rfl, .inl rfl, .inl rfl, trivial⟩ ?_
  exact s_ext (p_call (R := RRowsI) (ds := [.d (itD p.1), .d (itD p.2)]) (by walk_at "ev") ⟨p.1, p.2, rfl, k1, k2, k3, rfl⟩) rfl (by rw [List.length_map, List.length_map]; omega) hq
theorem fok_plain_rows (Tp : Top K mg base) : FnOk P w K mg base CX0 9 Tp.f_plain_rows Tp.d_plain_rows ["state", "pushes"] (spT K Tp.tabs RPlainR) := by
  have G_is_moving := fok_is_moving (P := P) (w := w) (base := base) Tp
  have G_full_rows := fok_full_rows (P := P) (w := w) (base := base) Tp
  refine Tp.F_plain_rows.ok sc_plain_rows (fun vs H Q E h => len_P (fun _ _ ⟨_, _, e, _⟩ => by rw [e]; rfl) h) (fun cdv A outer s H vs Q E hr h => ?_)
  refine ⟨_, (pss_cons (ps_set (i := 2) sc_plain_rows.nd rfl (.inr rfl) (pe_dc (own := [("body", 3)]) rfl sc_plain_rows.nd (pi_tup (pe_ix (r := rIxT K) ix_tup (pv 0) pe_int (fun _ _ => rfl))) (blkOk_by (N := ["state", "pushes", "fixed", "body", "name", "parts", "bound", "part"]) (sc := defScope s_plain_rows) (by decide +kernel)) (fun _ _ _ _ _ => (pg_name (i := 3) sc_plain_rows.nd rfl (Or.inl rfl))) (fun _ _ _ _ _ => (pts_one (pt_not (pt_val (pe_call G_is_moving (hr.mono (by decide)) (by rfl) Tp.g_is_moving Tp.F_is_moving.kp Tp.b_is_moving .nil pass0 (pa_cons (pv 3) pa_nil)))))) (fun _ _ _ _ _ => (pe_ix (r := rIxT K) ix_tup (pv 3) pe_int (fun _ _ => rfl))) (fun _ _ _ _ _ => pe_bl)))
      (pss_one (ps_ret (pe_callTy call_tuple_of (by rfl) Tp.n_tuple (by decide +kernel) (pa_cons (pe_lc (own := [("name", 4), ("parts", 5), ("bound", 6)]) (g := (gTup K 3 (gCons (gName 4) (gCons (gName 5) (gCons (gName 6) gNil))))) (tt := tYes) rfl sc_plain_rows.nd (pi_list (pe_call G_full_rows (hr.mono (by decide)) (by rfl) Tp.g_full_rows Tp.F_full_rows.kp Tp.b_full_rows .nil pass0 (pa_cons (pv 0) (pa_cons (pv 1) pa_nil)))) (blkOk_by (N := ["state", "pushes", "fixed", "body", "name", "parts", "bound", "part"]) (sc := defScope s_plain_rows) (by decide +kernel)) (fun _ _ _ _ _ => (pg_tup rfl (pgs_cons (pg_name (i := 4) sc_plain_rows.nd rfl (Or.inl rfl)) (pgs_cons (pg_name (i := 5) sc_plain_rows.nd rfl (Or.inl rfl)) (pgs_cons (pg_name (i := 6) sc_plain_rows.nd rfl (Or.inl rfl)) pgs_nil))))) (fun _ _ _ _ _ => pts_nil) (fun _ _ _ _ _ => (pe_tup (pa_cons (pv 4) (pa_cons (pe_callTy (T := "tuple") (r := rTupOf K) call_tuple_of (by rfl) Tp.n_tuple (by decide +kernel) (pa_cons (pe_lc (own := [("part", 7)]) (g := gName 7) (wi := iTup K _) rfl sc_plain_rows.nd (pi_tup (pv 5)) (blkOk_by (N := ["state", "pushes", "fixed", "body", "name", "parts", "bound", "part"]) (by with_unfolding_all rfl)) (fun _ _ _ _ _ => pg_name (i := 7) sc_plain_rows.nd rfl (Or.inl rfl)) (fun _ _ _ _ _ => (pts_one (pt_cmp (pc_dnotin (hu_of hr) (pe_ix (r := rIxT K) ix_tup (pv 7) pe_int (fun _ _ => rfl)) (pv 2)) rfl))) (fun _ _ _ _ _ => (pv 7))) pa_nil)) (pa_cons (pv 6) pa_nil)))))) pa_nil))))), body_T ?_ h⟩
  refine fun ds d r I hT => ?_
  obtain ⟨st, ps, rfl, h, rfl⟩ := r
  walk_at "norm"
  have hbl := h.j.len
  obtain ⟨d0, hd0⟩ : ∃ d0 : Bd, d0 = ⟨0, ⟨(0, 1), (0, 1), (0, 1), (0, 1)⟩, 0, (0, 1), (0, 1), (0, 1)⟩ := ⟨_, rfl⟩
  have eK := row_getK d0 (fun b => !decide (0 < b.ms)) (fun b => b.nm) (fun _ => PyData.bool true) st.bs
  have eg := range_get d0 st.bs
  refine q_asg (d := .k ((st.bs.filter fun b => !decide (0 < b.ms)).map fun b => ((.inl b.nm : Key), PyData.bool true))) (e_is (e_dcTW (n := st.bs.length) (b := fun j => !decide (0 < (st.bs.getD j d0).ms)) (k := fun j => (st.bs.getD j d0).nm) (e := fun _ => PyData.bool true) (e_iwn (iw_t (ds := st.bs.map bdD) (p_i0 (e_var rfl))) (by rw [List.length_map])) (by omega) (by
    have e2 : (List.range st.bs.length).map (fun j => (st.bs.getD j d0).nm) = st.bs.map (·.nm) := by
      conv => rhs; rw [← eg]
      rw [List.map_map]
      rfl
    rw [e2]
    exact h.j.nd) fun i hi => ?_) (by rw [eK])) ?_
  · have hx : st.bs[i]? = some (st.bs.getD i d0) := by rw [List.getD_eq_getElem?_getD, List.getElem?_eq_getElem hi]; rfl
    generalize st.bs.getD i d0 = z at hx ⊢
    rw [at0_map hx]
    exact ⟨_, w_name List.mem_cons_self, fun I' => t_not (t_B (p_call (R := RMoving) (ds := [.d (bdD z)]) (by walk_at "ev") ⟨z, rfl, rfl⟩)), fun _ => ⟨fun I' => p_i0 (e_var rfl), fun I' => e_bl⟩⟩
  have hfl := fullM_len h
  refine p_ret (e_tupOf (p_cons (e_lcW (es := (plainM st ps).map rwD) (iw_ll (ds := (fullM st ps).map rwD) (p_call (R := RFull) (ds := [.d (stD st), .u (ps.map puD)]) (p_cons (e_var rfl) (p_cons (e_var rfl) a_nil)) ⟨st, ps, rfl, h, rfl⟩)) (by unfold plainM; rw [List.length_map, List.length_map, List.length_map]) (by rw [List.length_map]; omega) fun i y hi hy => ?_) a_nil))
  obtain ⟨z, hz, rfl⟩ := getElem?_of_map hy
  obtain ⟨r, hr2, rfl⟩ : ∃ r, (fullM st ps)[i]? = some r ∧ cutR st.bs r = z := by
    unfold plainM at hz
    rw [List.getElem?_map, Option.map_eq_some_iff] at hz
    exact hz
  rw [at0_map hr2]
  refine ⟨_, w_tup rfl (w_cons (w_name (by decide)) (w_cons (w_name (by decide)) (w_cons (w_name (by decide)) w_nil))), fun I' => ?_⟩
  obtain ⟨p0, hp0⟩ : ∃ p0 : Pa, p0 = (0, 0, (0, 1)) := ⟨_, rfl⟩
  have eP := row_get p0 (fun p : Pa => !fixB st.bs p.1) paD r.ps
  by_cases hlen : r.ps.length ≤ 100000
  rotate_left
  · exfalso
    exact hlen (full_small h r (List.mem_of_getElem? hr2))
  refine p_tup (ds := [.d r.nm, .t ((cutR st.bs r).ps.map paD), .d (fr r.bd)]) (p_cons (e_var rfl) (p_cons (e_tupOf (p_cons (e_is (e_lcTW (n := r.ps.length) (b := fun j => !fixB st.bs (r.ps.getD j p0).1) (e := fun j => paD (r.ps.getD j p0)) (e_iwn (iw_t (ds := r.ps.map paD) (e_var rfl)) (by rw [List.length_map])) hlen fun j hj => ?_) (by rw [eP]; rfl)) a_nil)) (p_cons (e_var rfl) a_nil))) (.cons (.cons (.cons .nil))) (show 3 ≤ 100000 by decide)
  have hx : r.ps[j]? = some (r.ps.getD j p0) := by rw [List.getD_eq_getElem?_getD, List.getElem?_eq_getElem hj]; rfl
  generalize r.ps.getD j p0 = p at hx ⊢
  rw [at0_map hx]
  exact ⟨_, w_name List.mem_cons_self, fun I' => t_is (t_B (e_kNot (n := p.1) (p_i0 (e_var rfl)) (e_var rfl))) (by rw [fix_get]), fun _ I' => e_var rfl⟩
theorem fok_settle (Tp : Top K mg base) : FnOk P w K mg base (L2.CX P w) 10 Tp.f_settle Tp.d_settle ["state", "pushes"] (spXT K Tp.tabs RSettle1) := by
  have G_plain_rows := fok_plain_rows (P := P) (w := w) (base := base) Tp
  have G_task_of := fok_task_of (P := P) (w := w) (base := base) Tp
  have G_nearest := fok_nearest (P := P) (w := w) (base := base) Tp
  have G_speeds_at := fok_speeds_at (P := P) (w := w) (base := base) Tp
  refine Tp.F_settle.okX sc_settle (fun vs H Q E h => len_X (fun _ _ ⟨_, _, _, _, _, _, e, _⟩ => by rw [e]; rfl) h) (fun cdv A outer s H vs Q E hr h => ?_)
  refine ⟨_, (pss_cons (ps_set (i := 2) sc_settle.nd rfl (.inr rfl) (pe_call G_plain_rows (hr.mono (by decide)) (by rfl) Tp.g_plain_rows Tp.F_plain_rows.kp Tp.b_plain_rows .nil pass0 (pa_cons (pv 0) (pa_cons (pv 1) pa_nil))))
      (pss_cons (ps_asg (pe_call G_task_of (hr.mono (by decide)) (by rfl) Tp.g_task_of Tp.F_task_of.kp Tp.b_task_of .nil pass0 (pa_cons (pv 0) (pa_cons (pv 1) (pa_cons (pv 2) pa_nil)))) (pg_tup rfl (pgs_cons (pg_name (i := 3) sc_settle.nd rfl (.inl rfl)) (pgs_cons (pg_name (i := 4) sc_settle.nd rfl (.inl rfl)) (pgs_cons (pg_name (i := 5) sc_settle.nd rfl (.inl rfl)) pgs_nil)))))
      (pss_cons (ps_asg (pe_call G_nearest (hr.mono (by decide)) (by rfl) Tp.g_nearest Tp.F_nearest.kp Tp.b_nearest .nil (passes_call (takes_of rfl rfl rfl rfl) (fun _ _ _ _ z => z)) (pa_cons (pv 3) (pa_cons (pv 4) (pa_cons (pv 5) pa_nil)))) (pg_tup rfl (pgs_cons (pg_name (i := 6) sc_settle.nd rfl (.inl rfl)) (pgs_cons (pg_name (i := 7) sc_settle.nd rfl (.inl rfl)) pgs_nil))))
      (pss_cons (ps_set (i := 8) sc_settle.nd rfl (.inl rfl) (pe_callTy call_tuple_of (by rfl) Tp.n_tuple (by decide +kernel) (pa_cons (pe_lc (own := [("line", 9), ("amount", 10)]) (g := (gTup K 2 (gCons (gName 9) (gCons (gName 10) gNil)))) (tt := tYes) rfl sc_settle.nd (pi_tup (pv 7)) (blkOk_by (N := ["state", "pushes", "rows", "weights", "wishes", "lines", "point", "amounts", "forces", "line", "amount"]) (sc := defScope s_settle) (by decide +kernel)) (fun _ _ _ _ _ => (pg_tup rfl (pgs_cons (pg_name (i := 9) sc_settle.nd rfl (Or.inl rfl)) (pgs_cons (pg_name (i := 10) sc_settle.nd rfl (Or.inl rfl)) pgs_nil)))) (fun _ _ _ _ _ => pts_nil) (fun _ _ _ _ _ => (pe_tup (pa_cons (pe_ix (r := rIxT K) ix_tup (pe_ix (r := rIxT K) ix_tup (pv 2) (pv 9) (fun _ _ => rfl)) pe_int (fun _ _ => rfl)) (pa_cons (pv 10) pa_nil))))) pa_nil)))
      (pss_one (ps_ret (pe_tup (pa_cons (pe_call G_speeds_at (hr.mono (by decide)) (by rfl) Tp.g_speeds_at Tp.F_speeds_at.kp Tp.b_speeds_at .nil pass0 (pa_cons (pv 0) (pa_cons (pv 6) pa_nil))) (pa_cons (pv 8) pa_nil))))))))), body_XT ?_ h⟩
  refine fun ds r hr I hT hx => ?_
  obtain ⟨p0, p1, v0, v1, u0, u1, rfl, h, rfl⟩ := hr
  walk_at "norm"
  refine q_asg (d := .t []) (p_call (T := Tp.tabs) (R := RPlainR) (ds := [.d (stD (sta1 p0 p1 v0 v1 u0 u1)), .u []]) (by walk_at "ev") ⟨sta1 p0 p1 v0 v1 u0 u1, [], rfl, h.rk, by rw [rows1]; rfl⟩) ?_
  refine s_seq (s_asgG (x := .tuple [.tuple [.int 2, .int 2], .tuple [fr (frV v0 u0), fr (frV v1 u1)], .tuple []]) (p_call (T := noT) (R := RTask1) (ds := [.d (stD (sta1 p0 p1 v0 v1 u0 u1)), .u [], .t []]) (by walk_at "ev") ⟨p0, p1, v0, v1, u0, u1, rfl, h, rfl⟩) (g_tup rfl (g_cons g_name (g_cons g_name (g_cons g_name g_nil))))) ?_
  refine s_seq (s_asgG (x := .tuple [.tuple [fr (frV v0 u0), fr (frV v1 u1)], .tuple []]) (e_callX (tabs := Tp.tabs) (R := RNear0) (ds := [.t [.int 2, .int 2], .t [fr (frV v0 u0), fr (frV v1 u1)], .t []]) (by walk_at "ev") ⟨[2, 2], [frV v0 u0, frV v1 u1], rfl, h.task, rfl⟩) (g_tup rfl (g_cons g_name (g_cons g_name g_nil)))) ?_
  refine q_asg (d := .t []) (e_tupOf (p_cons (e_lcW (es := []) (iw_t (ds := []) (e_var rfl)) rfl (by decide) fun i y hi => absurd hi (Nat.not_lt_zero _)) a_nil)) ?_
  exact p_ret (p_tup2 (x := .tuple [vcd (frV v0 u0) (frV v1 u1)]) (y := .tuple []) (p_cons (p_call (T := noT) (R := RSpeeds1) (ds := [.d (stD (sta1 p0 p1 v0 v1 u0 u1)), .t [fr (frV v0 u0), fr (frV v1 u1)]]) (by walk_at "ev") ⟨p0, p1, v0, v1, u0, u1, _, _, rfl, rfl⟩) (p_cons (e_var rfl) a_nil)))
theorem fok_ticked (Tp : Top K mg base) : FnOk P w K mg base (L2.CX P w) 11 Tp.f_ticked Tp.d_ticked ["state", "pushes"] (spXT K Tp.tabs RTick1) := by
  have G_settle := fok_settle (P := P) (w := w) (base := base) Tp
  have G_with_speeds := fok_with_speeds (P := P) (w := w) (base := base) Tp
  refine Tp.F_ticked.okX sc_ticked (fun vs H Q E h => len_X (fun _ _ ⟨_, _, _, _, _, _, e, _⟩ => by rw [e]; rfl) h) (fun cdv A outer s H vs Q E hr h => ?_)
  refine ⟨_, (pss_cons (ps_asg (pe_call G_settle (hr.mono (by decide)) (by rfl) Tp.g_settle Tp.F_settle.kp Tp.b_settle .nil (passes_call (takes_of rfl rfl rfl rfl) (fun _ _ _ _ z => z)) (pa_cons (pv 0) (pa_cons (pv 1) pa_nil))) (pg_tup rfl (pgs_cons (pg_name (i := 2) sc_ticked.nd rfl (.inl rfl)) (pgs_cons (pg_name (i := 3) sc_ticked.nd rfl (.inl rfl)) pgs_nil))))
      (pss_one (ps_ret (pe_tup (pa_cons (pe_call G_with_speeds (hr.mono (by decide)) (by rfl) Tp.g_with_speeds Tp.F_with_speeds.kp Tp.b_with_speeds .nil pass0 (pa_cons (pv 0) (pa_cons (pv 2) pa_nil))) (pa_cons (pv 3) pa_nil)))))), body_XT ?_ h⟩
  refine fun ds r hr I hT hx => ?_
  obtain ⟨p0, p1, v0, v1, u0, u1, rfl, h, rfl⟩ := hr
  walk_at "norm"
  refine s_seq (s_asgG (x := .tuple [.tuple [vcd (frV v0 u0) (frV v1 u1)], .tuple []]) (e_callX (tabs := Tp.tabs) (R := RSettle1) (ds := [.d (stD (sta1 p0 p1 v0 v1 u0 u1)), .u []]) (by walk_at "ev") ⟨p0, p1, v0, v1, u0, u1, rfl, h, rfl⟩) (g_tup rfl (g_cons g_name (g_cons g_name g_nil)))) ?_
  exact p_ret (p_tup2 (x := (stD (sta1 (plusM p0 (frV v0 u0)) (plusM p1 (frV v1 u1)) (frV v0 u0) (frV v1 u1) u0 u1))) (y := .tuple []) (p_cons (p_call (T := noT) (R := RWith1) (ds := [.d (stD (sta1 p0 p1 v0 v1 u0 u1)), .t [vcd (frV v0 u0) (frV v1 u1)]]) (by walk_at "ev") ⟨p0, p1, v0, v1, u0, u1, _, _, rfl, h, frV_ok h.v0 h.u0, frV_ok h.v1 h.u1, rfl⟩) (p_cons (e_var rfl) a_nil)))
theorem fok_tick (Tp : Top K mg base) : FnOk P w K mg base (L2.CX P w) 12 Tp.f_tick Tp.d_tick ["state", "pushes"] (spXT K Tp.tabs RTick1) := by
  have G_check_pushes := fok_check_pushes (P := P) (w := w) (base := base) Tp
  have G_ticked := fok_ticked (P := P) (w := w) (base := base) Tp
  refine Tp.F_tick.okX sc_tick (fun vs H Q E h => len_X (fun _ _ ⟨_, _, _, _, _, _, e, _⟩ => by rw [e]; rfl) h) (fun cdv A outer s H vs Q E hr h => ?_)
  refine ⟨_, (pss_cons (ps_expr (pe_call G_check_pushes (hr.mono (by decide)) (by rfl) Tp.g_check_pushes Tp.F_check_pushes.kp Tp.b_check_pushes .nil (passes_call (takes_of rfl rfl rfl rfl) (fun _ _ _ _ z => z)) (pa_cons (pv 0) (pa_cons (pv 1) pa_nil))))
      (pss_one (ps_ret (pe_call G_ticked (hr.mono (by decide)) (by rfl) Tp.g_ticked Tp.F_ticked.kp Tp.b_ticked .nil (passes_call (takes_of rfl rfl rfl rfl) (fun _ _ _ _ z => z)) (pa_cons (pv 0) (pa_cons (pv 1) pa_nil)))))), body_XT ?_ h⟩
  refine fun ds r hr I hT hx => ?_
  obtain ⟨p0, p1, v0, v1, u0, u1, rfl, h, rfl⟩ := hr
  walk_at "norm"
  refine s_seq (s_drop (e_callX (tabs := Tp.tabs) (R := RPushes Tp.c_TooLarge Tp.c_BodyError Tp.c_OverlapError Tp.c_JointError Tp.c_PushError) (ds := [.d (stD (sta1 p0 p1 v0 v1 u0 u1)), .t []]) (d := .d .none) (p_cons (e_var rfl) (p_cons (e_u2t (e_var rfl)) a_nil)) ⟨sta1 p0 p1 v0 v1 u0 u1, [], rfl, h.sta, by show 0 ≤ 100000; decide, .inl ⟨chk1, rfl, rfl⟩⟩)) ?_
  exact p_ret (e_callX (tabs := Tp.tabs) (R := RTick1) (ds := [.d (stD (sta1 p0 p1 v0 v1 u0 u1)), .u []]) (by walk_at "ev") ⟨p0, p1, v0, v1, u0, u1, rfl, h, rfl⟩)
theorem fok_law (Tp : Top K mg base) : FnOk P w K mg base CX0 13 Tp.f_law Tp.d_law ["script"] (spLawT K Tp.tabs) := by
  have G_law_begin := fok_law_begin (P := P) (w := w) (base := base) Tp
  have G_law_vector := fok_law_vector (P := P) (w := w) (base := base) Tp
  have G_law_take := fok_law_take (P := P) (w := w) (base := base) Tp
  have G_law_f := fok_law_f (P := P) (w := w) (base := base) Tp
  have G_law_walk := fok_law_walk (P := P) (w := w) (base := base) Tp
  have G_law_cross := fok_law_cross (P := P) (w := w) (base := base) Tp
  have G_law_told := fok_law_told (P := P) (w := w) (base := base) Tp
  have G_highest_tick := fok_highest_tick (P := P) (w := w) (base := base) Tp
  have G_law_signed := fok_law_signed (P := P) (w := w) (base := base) Tp
  have G_law_plus := fok_law_plus (P := P) (w := w) (base := base) Tp
  have G_tick := fok_tick (P := P) (w := w) (base := base) Tp
  have G_law_part := fok_law_part (P := P) (w := w) (base := base) Tp
  have G_law_less := fok_law_less (P := P) (w := w) (base := base) Tp
  refine Tp.F_law.ok sc_law (fun vs H Q E h => len_LT h) (fun cdv A outer s H vs Q E hr h => ?_)
  refine ⟨_, (pss_cons (ps_set (i := 1) sc_law.nd rfl (.inl rfl) (pe_call G_law_begin (hr.mono (by decide)) (by rfl) Tp.g_law_begin Tp.F_law_begin.kp Tp.b_law_begin .nil pass0 (pa_cons (pv 0) pa_nil)))
      (pss_cons (ps_set (i := 2) sc_law.nd rfl (.inl rfl) (pe_call G_law_vector (hr.mono (by decide)) (by rfl) Tp.g_law_vector Tp.F_law_vector.kp Tp.b_law_vector .nil pass0 (pa_cons (pv 1) (pa_cons pe_int pa_nil))))
      (pss_cons (ps_set (i := 3) sc_law.nd rfl (.inl rfl) (pe_call G_law_vector (hr.mono (by decide)) (by rfl) Tp.g_law_vector Tp.F_law_vector.kp Tp.b_law_vector .nil pass0 (pa_cons (pv 1) (pa_cons pe_int pa_nil))))
      (pss_cons (ps_set (i := 4) sc_law.nd rfl (.inl rfl) (pe_tup (pa_cons (pe_call G_law_f (hr.mono (by decide)) (by rfl) Tp.g_law_f Tp.F_law_f.kp Tp.b_law_f .nil pass0 (pa_cons (pe_call G_law_signed (hr.mono (by decide)) (by rfl) Tp.g_law_signed Tp.F_law_signed.kp Tp.b_law_signed .nil pass0 (pa_cons (pv 1) (pa_cons pe_int pa_nil))) (pa_cons (pe_op op_add pe_int (pe_call G_law_take (hr.mono (by decide)) (by rfl) Tp.g_law_take Tp.F_law_take.kp Tp.b_law_take .nil pass0 (pa_cons (pv 1) (pa_cons pe_int pa_nil)))) pa_nil))) (pa_cons (pe_call G_law_f (hr.mono (by decide)) (by rfl) Tp.g_law_f Tp.F_law_f.kp Tp.b_law_f .nil pass0 (pa_cons (pe_call G_law_signed (hr.mono (by decide)) (by rfl) Tp.g_law_signed Tp.F_law_signed.kp Tp.b_law_signed .nil pass0 (pa_cons (pv 1) (pa_cons pe_int pa_nil))) (pa_cons (pe_op op_add pe_int (pe_call G_law_take (hr.mono (by decide)) (by rfl) Tp.g_law_take Tp.F_law_take.kp Tp.b_law_take .nil pass0 (pa_cons (pv 1) (pa_cons pe_int pa_nil)))) pa_nil))) pa_nil))))
      (pss_cons (ps_set (i := 5) sc_law.nd rfl (.inl rfl) (pe_call G_law_take (hr.mono (by decide)) (by rfl) Tp.g_law_take Tp.F_law_take.kp Tp.b_law_take .nil pass0 (pa_cons (pv 1) (pa_cons pe_int pa_nil))))
      (pss_cons (ps_set (i := 6) sc_law.nd rfl (.inl rfl) (pe_lst (pa_cons (pv 2) (pa_cons (pv 3) pa_nil))))
      (pss_cons (ps_set (i := 7) sc_law.nd rfl (.inl rfl) (pe_tup (pa_cons (pe_tup (pa_cons (pe_tup (pa_cons pe_int (pa_cons (pv 2) (pa_cons (pe_tup (pa_cons (pe_tup (pa_cons pe_int (pa_cons pe_int pa_nil))) (pa_cons (pe_tup (pa_cons pe_int (pa_cons pe_int pa_nil))) pa_nil))) (pa_cons pe_int (pa_cons (pe_tup (pa_cons pe_int (pa_cons pe_int pa_nil))) (pa_cons (pv 3) pa_nil))))))) pa_nil)) (pa_cons (pe_tupU pa_nil) (pa_cons (pv 4) pa_nil)))))
      (pss_cons (ps_for PassesOwn.never rfl (pi_range1 (by rfl) Tp.n_range (pa_cons (pv 5) pa_nil)) (pg_name (i := 8) sc_law.nd rfl (.inl rfl)) (pss_cons (ps_set (i := 9) sc_law.nd rfl (.inl rfl) (pe_tup (pa_cons (pe_call G_law_plus (hr.mono (by decide)) (by rfl) Tp.g_law_plus Tp.F_law_plus.kp Tp.b_law_plus .nil pass0 (pa_cons (pe_ix (r := rIxT K) ix_tup (pe_ix (r := rIxL K) ix_list (pv 6) pe_int (fun _ _ => rfl)) pe_int (fun _ _ => rfl)) (pa_cons (pe_ix (r := rIxT K) ix_tup (pv 4) pe_int (fun _ _ => rfl)) pa_nil))) (pa_cons (pe_call G_law_plus (hr.mono (by decide)) (by rfl) Tp.g_law_plus Tp.F_law_plus.kp Tp.b_law_plus .nil pass0 (pa_cons (pe_ix (r := rIxT K) ix_tup (pe_ix (r := rIxL K) ix_list (pv 6) pe_int (fun _ _ => rfl)) pe_int (fun _ _ => rfl)) (pa_cons (pe_ix (r := rIxT K) ix_tup (pv 4) pe_int (fun _ _ => rfl)) pa_nil))) pa_nil))))
      (pss_cons (ps_set (i := 6) sc_law.nd rfl (.inl rfl) (pe_lst (pa_cons (pe_tup (pa_cons (pe_call G_law_plus (hr.mono (by decide)) (by rfl) Tp.g_law_plus Tp.F_law_plus.kp Tp.b_law_plus .nil pass0 (pa_cons (pe_ix (r := rIxT K) ix_tup (pe_ix (r := rIxL K) ix_list (pv 6) pe_int (fun _ _ => rfl)) pe_int (fun _ _ => rfl)) (pa_cons (pe_ix (r := rIxT K) ix_tup (pv 9) pe_int (fun _ _ => rfl)) pa_nil))) (pa_cons (pe_call G_law_plus (hr.mono (by decide)) (by rfl) Tp.g_law_plus Tp.F_law_plus.kp Tp.b_law_plus .nil pass0 (pa_cons (pe_ix (r := rIxT K) ix_tup (pe_ix (r := rIxL K) ix_list (pv 6) pe_int (fun _ _ => rfl)) pe_int (fun _ _ => rfl)) (pa_cons (pe_ix (r := rIxT K) ix_tup (pv 9) pe_int (fun _ _ => rfl)) pa_nil))) pa_nil))) (pa_cons (pv 9) pa_nil))))
      (pss_one (ps_set (i := 7) sc_law.nd rfl (.inl rfl) (pe_ix (r := rIxT K) ix_tup (pe_call G_tick (hr.mono (by decide)) (by rfl) Tp.g_tick Tp.F_tick.kp Tp.b_tick .nil passL (pa_cons (pv 7) (pa_cons (pe_tupU pa_nil) pa_nil))) pe_int (fun _ _ => rfl)))))))
      (pss_cons (ps_if (PW.pt (pw_or (pt_cmpR (op_neD hr.units) (pe_call G_law_told (hr.mono (by decide)) (by rfl) Tp.g_law_told Tp.F_law_told.kp Tp.b_law_told .nil pass0 (pa_cons pe_int (pa_cons (pv 2) (pa_cons (pv 3) (pa_cons (pv 4) (pa_cons pe_int (pa_cons (pv 5) pa_nil))))))) (pe_tup (pa_cons (pe_ix (r := rIxL K) ix_list (pv 6) pe_int (fun _ _ => rfl)) (pa_cons (pe_ix (r := rIxL K) ix_list (pv 6) pe_int (fun _ _ => rfl)) pa_nil))) (nomark _)) (pw_or1 (pt_cmpR (op_neD hr.units) (pe_tup (pa_cons (pe_ix (r := rIxT K) ix_tup (pe_ix (r := rIxT K) ix_tup (pe_ix (r := rIxT K) ix_tup (pv 7) pe_int (fun _ _ => rfl)) pe_int (fun _ _ => rfl)) pe_int (fun _ _ => rfl)) (pa_cons (pe_ix (r := rIxT K) ix_tup (pe_ix (r := rIxT K) ix_tup (pe_ix (r := rIxT K) ix_tup (pv 7) pe_int (fun _ _ => rfl)) pe_int (fun _ _ => rfl)) pe_int (fun _ _ => rfl)) pa_nil))) (pe_tup (pa_cons (pe_ix (r := rIxL K) ix_list (pv 6) pe_int (fun _ _ => rfl)) (pa_cons (pe_ix (r := rIxL K) ix_list (pv 6) pe_int (fun _ _ => rfl)) pa_nil))) (nomark _))))) (pss_one (ps_ret pe_bl)) pss_nil)
      (pss_cons (ps_for PassesOwn.never rfl (pi_tup (pe_tup (pa_cons pe_int (pa_cons pe_int pa_nil)))) (pg_name (i := 10) sc_law.nd rfl (.inl rfl)) (pss_cons (ps_set (i := 11) sc_law.nd rfl (.inl rfl) (pe_call G_law_walk (hr.mono (by decide)) (by rfl) Tp.g_law_walk Tp.F_law_walk.kp Tp.b_law_walk .nil pass0 (pa_cons (pe_ix (r := rIxT K) ix_tup (pv 2) (pv 10) (fun _ _ => rfl)) (pa_cons (pe_ix (r := rIxT K) ix_tup (pv 3) (pv 10) (fun _ _ => rfl)) (pa_cons (pe_ix (r := rIxT K) ix_tup (pv 4) (pv 10) (fun _ _ => rfl)) (pa_cons pe_int pa_nil))))))
      (pss_cons (ps_set (i := 12) sc_law.nd rfl (.inl rfl) (pe_ifExp (pt_cmpR op_eq (pe_call G_law_take (hr.mono (by decide)) (by rfl) Tp.g_law_take Tp.F_law_take.kp Tp.b_law_take .nil pass0 (pa_cons (pv 1) (pa_cons pe_int pa_nil))) pe_int (nomark _)) (pe_ix (r := rIxL K) ix_list (pv 11) (pe_call G_law_take (hr.mono (by decide)) (by rfl) Tp.g_law_take Tp.F_law_take.kp Tp.b_law_take .nil pass0 (pa_cons (pv 1) (pa_cons pe_int pa_nil))) (fun _ _ => rfl)) (pe_call G_law_plus (hr.mono (by decide)) (by rfl) Tp.g_law_plus Tp.F_law_plus.kp Tp.b_law_plus .nil pass0 (pa_cons (pe_ix (r := rIxT K) ix_tup (pv 2) (pv 10) (fun _ _ => rfl)) (pa_cons (pe_call G_law_part (hr.mono (by decide)) (by rfl) Tp.g_law_part Tp.F_law_part.kp Tp.b_law_part .nil pass0 (pa_cons (pv 1) (pa_cons pe_int pa_nil))) pa_nil)))))
      (pss_cons (ps_set (i := 13) sc_law.nd rfl (.inl rfl) (pe_ix (r := rIxT K) ix_tup (pe_tup (pa_cons pe_int (pa_cons (pe_op op_add pe_int (pe_call G_law_take (hr.mono (by decide)) (by rfl) Tp.g_law_take Tp.F_law_take.kp Tp.b_law_take .nil pass0 (pa_cons (pv 1) (pa_cons pe_int pa_nil)))) (pa_cons pe_int pa_nil)))) (pe_call G_law_take (hr.mono (by decide)) (by rfl) Tp.g_law_take Tp.F_law_take.kp Tp.b_law_take .nil pass0 (pa_cons (pv 1) (pa_cons pe_int pa_nil))) (fun _ _ => rfl)))
      (pss_cons (ps_set (i := 14) sc_law.nd rfl (.inl rfl) (pe_call G_law_cross (hr.mono (by decide)) (by rfl) Tp.g_law_cross Tp.F_law_cross.kp Tp.b_law_cross .nil pass0 (pa_cons (pe_slice (r := rSlL K) sl_list (pv 11) po_none (po_some (pe_op op_add (pv 13) pe_int))) (pa_cons (pv 12) pa_nil))))
      (pss_cons (ps_set (i := 15) sc_law.nd rfl (.inl rfl) (pe_call G_law_told (hr.mono (by decide)) (by rfl) Tp.g_law_told Tp.F_law_told.kp Tp.b_law_told .nil pass0 (pa_cons pe_int (pa_cons (pe_ix (r := rIxT K) ix_tup (pv 2) (pv 10) (fun _ _ => rfl)) (pa_cons (pe_ix (r := rIxT K) ix_tup (pv 3) (pv 10) (fun _ _ => rfl)) (pa_cons (pe_ix (r := rIxT K) ix_tup (pv 4) (pv 10) (fun _ _ => rfl)) (pa_cons (pv 12) (pa_cons (pv 13) pa_nil))))))))
      (pss_cons (ps_if (PW.pt (pw_and (pt_cmpR (op_neD hr.units) (pv 15) (pv 14) (nomark _)) (pw_and1 (PW.pt (pw_or (pt_cmpR op_le (pv 13) pe_int (nomark _)) (pw_or (pt_cmpR op_notN (pv 14) pe_non (nomark _)) (pw_or1 (PW.pt (pw_and (pt_cmpR op_notN (pv 15) pe_non (nomark _)) (pw_and1 (pt_cmpR op_le (pv 15) pe_int (nomark _)))))))))))) (pss_one (ps_ret pe_bl)) pss_nil)
      (pss_cons (ps_set (i := 16) sc_law.nd rfl (.inl rfl) pe_int)
      (pss_cons (ps_for PassesOwn.never rfl (pi_range1 (by rfl) Tp.n_range (pa_cons pe_int pa_nil)) (pg_name (i := 8) sc_law.nd rfl (.inl rfl)) (pss_one (ps_set (i := 16) sc_law.nd rfl (.inl rfl) (pe_ifExp (pt_val (pe_call G_law_less (hr.mono (by decide)) (by rfl) Tp.g_law_less Tp.F_law_less.kp Tp.b_law_less .nil pass0 (pa_cons (pe_ix (r := rIxL K) ix_list (pv 11) (pv 16) (fun _ _ => rfl)) (pa_cons (pe_ix (r := rIxL K) ix_list (pv 11) (pv 8) (fun _ _ => rfl)) pa_nil)))) (pv 8) (pv 16)))))
      (pss_cons (ps_set (i := 17) sc_law.nd rfl (.inl rfl) (pe_call G_highest_tick (hr.mono (by decide)) (by rfl) Tp.g_highest_tick Tp.F_highest_tick.kp Tp.b_highest_tick .nil pass0 (pa_cons (pe_ix (r := rIxT K) ix_tup (pv 3) (pv 10) (fun _ _ => rfl)) (pa_cons (pe_ix (r := rIxT K) ix_tup (pv 4) (pv 10) (fun _ _ => rfl)) pa_nil))))
      (pss_cons (ps_set (i := 18) sc_law.nd rfl (.inl rfl) (pe_or (pe_cmpR op_gt (pe_ix (r := rIxT K) ix_tup (pe_ix (r := rIxT K) ix_tup (pv 4) (pv 10) (fun _ _ => rfl)) pe_int (fun _ _ => rfl)) pe_int (nomark _)) (pe_one (pe_and (pe_cmpR op_eq (pe_ix (r := rIxT K) ix_tup (pe_ix (r := rIxT K) ix_tup (pv 4) (pv 10) (fun _ _ => rfl)) pe_int (fun _ _ => rfl)) pe_int (nomark _)) (pe_one (pe_cmpR op_gt (pe_ix (r := rIxT K) ix_tup (pe_ix (r := rIxT K) ix_tup (pv 3) (pv 10) (fun _ _ => rfl)) pe_int (fun _ _ => rfl)) pe_int (nomark _)))))))
      (pss_one (ps_if (PW.pt (pw_or (pt_cmpR (op_neD hr.units) (pe_cmpR op_isN (pv 17) pe_non (nomark _)) (pv 18) (nomark _)) (pw_or1 (PW.pt (pw_and (pt_cmpR op_notN (pv 17) pe_non (nomark _)) (pw_and (pt_cmpR (op_neD hr.units) (pv 17) (pv 16) (nomark _)) (pw_and1 (PW.pt (pw_or (pt_cmpR op_lt (pv 16) pe_int (nomark _)) (pw_or1 (pt_cmpR op_le (pv 17) pe_int (nomark _)))))))))))) (pss_one (ps_ret pe_bl)) pss_nil)))))))))))))
      (pss_cons (ps_if (PW.pt (pw_or (pt_cmpR (op_neD hr.units) (pe_call G_law_told (hr.mono (by decide)) (by rfl) Tp.g_law_told Tp.F_law_told.kp Tp.b_law_told .nil pass0 (pa_cons pe_int (pa_cons (pv 2) (pa_cons (pv 3) (pa_cons (pv 4) (pa_cons pe_int (pa_cons (pe_op op_sub pe_int pe_int) pa_nil))))))) pe_str (nomark _)) (pw_or1 (pt_cmpR (op_neD hr.units) (pe_call G_law_told (hr.mono (by decide)) (by rfl) Tp.g_law_told Tp.F_law_told.kp Tp.b_law_told .nil pass0 (pa_cons pe_int (pa_cons (pv 2) (pa_cons (pv 3) (pa_cons (pv 4) (pa_cons pe_int (pa_cons pe_int pa_nil))))))) pe_str (nomark _))))) (pss_one (ps_ret pe_bl)) pss_nil)
      (pss_one (ps_ret (pe_and (pe_cmpR (op_eqD hr.units) (pe_call G_law_told (hr.mono (by decide)) (by rfl) Tp.g_law_told Tp.F_law_told.kp Tp.b_law_told .nil pass0 (pa_cons pe_int (pa_cons (pe_ix (r := rIxT K) ix_tup (pv 2) pe_int (fun _ _ => rfl)) (pa_cons (pe_ix (r := rIxT K) ix_tup (pv 3) pe_int (fun _ _ => rfl)) (pa_cons (pe_ix (r := rIxT K) ix_tup (pv 4) pe_int (fun _ _ => rfl)) (pa_cons (pe_ix (r := rIxT K) ix_tup (pv 2) pe_int (fun _ _ => rfl)) (pa_cons pe_int pa_nil))))))) pe_str (nomark _)) (pe_one (pe_cmpR (op_eqD hr.units) (pe_call G_law_told (hr.mono (by decide)) (by rfl) Tp.g_law_told Tp.F_law_told.kp Tp.b_law_told .nil pass0 (pa_cons pe_int (pa_cons (pe_ix (r := rIxT K) ix_tup (pv 2) pe_int (fun _ _ => rfl)) (pa_cons (pe_ix (r := rIxT K) ix_tup (pv 3) pe_int (fun _ _ => rfl)) (pa_cons (pe_ix (r := rIxT K) ix_tup (pv 4) pe_int (fun _ _ => rfl)) (pa_cons (pe_ix (r := rIxT K) ix_tup (pv 2) pe_int (fun _ _ => rfl)) (pa_cons pe_int pa_nil))))))) pe_str (nomark _))))))))))))))))), body_LT ?_ h⟩
  refine fun ns hl => ?_
  walk_at "norm"
  refine s_beginT (ns := ns) (by walk_at "ev") fun p C ok nf => ?_
  obtain ⟨ok1, x0, x1⟩ := vec_sm (C := C) (m := 5) ok (by decide)
  refine s_seq (s_asg (e_draw (R := RVec) (ds := [.i ((5 : Nat) : Int)]) (C := C) (a_cons (e_var rfl) (a_cons e_int a_nil)) ⟨_, rfl, ok, by decide, sz_le (m := 5) (by decide) (by decide), rfl, rfl⟩ nf)) ?_
  generalize (vecM C ((5 : Nat) : Int)).1.1 = p0 at *
  generalize (vecM C ((5 : Nat) : Int)).1.2 = p1 at *
  generalize (vecM C ((5 : Nat) : Int)).2 = C1 at *
  obtain ⟨ok2, y0, y1⟩ := vec_sm (C := C1) (m := 4) ok1 (by decide)
  refine s_seq (s_asg (e_draw (R := RVec) (ds := [.i ((4 : Nat) : Int)]) (C := C1) (a_cons (e_var rfl) (a_cons e_int a_nil)) ⟨_, rfl, ok1, by decide, sz_le (m := 5) (by decide) (by decide), rfl, rfl⟩ nf)) ?_
  generalize (vecM C1 ((4 : Nat) : Int)).1.1 = s0 at *
  generalize (vecM C1 ((4 : Nat) : Int)).1.2 = s1 at *
  generalize (vecM C1 ((4 : Nat) : Int)).2 = C2 at *
  obtain ⟨ok3, z0⟩ := pul_sm (C := C2) (m := 3) (t := 4) ok2 (by decide) (by decide) (by decide) (by decide)
  obtain ⟨ok4, z1⟩ := pul_sm (C := (pulM C2 3 4).2) (m := 2) (t := 9) ok3 (by decide) (by decide) (by decide) (by decide)
  obtain ⟨a1, a2, a3⟩ := take_ok (C := C2) (m := 2 * 3 + 1) ok2 (by decide)
  obtain ⟨a4, a5, a6⟩ := take_ok (C := (take C2 (2 * 3 + 1)).2) (m := 4) a1 (by decide)
  obtain ⟨b1, b2, b3⟩ := take_ok (C := (pulM C2 3 4).2) (m := 2 * 2 + 1) ok3 (by decide)
  obtain ⟨b4, b5, b6⟩ := take_ok (C := (take (pulM C2 3 4).2 (2 * 2 + 1)).2) (m := 9) b1 (by decide)
  refine s_seq (s_asg (d := .t [fr (pulM C2 3 4).1, fr (pulM (pulM C2 3 4).2 2 9).1]) (J := dJ K p (pulM (pulM C2 3 4).2 2 9).2 (.tab Tp.tabs)) (e_tup (ds := [.d (fr (pulM C2 3 4).1), .d (fr (pulM (pulM C2 3 4).2 2 9).1)]) (a_cons (e_call (T := noT) (R := RF) (ds := [.i ((take C2 (2 * 3 + 1)).1 - 3), .i (1 + (take (take C2 (2 * 3 + 1)).2 4).1)]) (a_cons (e_draw (R := RSigned) (ds := [.i 3]) (C := C2) (a_cons (e_var rfl) (a_cons e_int a_nil)) ⟨_, rfl, ok2, by decide, sz_le (m := 5) (by decide) (by decide), rfl, rfl⟩ nf) (a_cons (e_add e_int (e_draw (R := RTake) (ds := [.i 4]) (C := (take C2 (2 * 3 + 1)).2) (a_cons (e_var rfl) (a_cons e_int a_nil)) ⟨_, rfl, a1, by decide, sz_le (m := 5) (by decide) (by decide), rfl, rfl⟩ nf)) a_nil)) (RF.mk (m := 10) (n := 10) (by omega) (by omega) (by omega))) (a_cons (e_call (T := noT) (R := RF) (ds := [.i ((take (pulM C2 3 4).2 (2 * 2 + 1)).1 - 2), .i (1 + (take (take (pulM C2 3 4).2 (2 * 2 + 1)).2 9).1)]) (a_cons (e_draw (R := RSigned) (ds := [.i 2]) (C := (pulM C2 3 4).2) (a_cons (e_var rfl) (a_cons e_int a_nil)) ⟨_, rfl, ok3, by decide, sz_le (m := 5) (by decide) (by decide), rfl, rfl⟩ nf) (a_cons (e_add e_int (e_draw (R := RTake) (ds := [.i 9]) (C := (take (pulM C2 3 4).2 (2 * 2 + 1)).2) (a_cons (e_var rfl) (a_cons e_int a_nil)) ⟨_, rfl, b1, by decide, sz_le (m := 5) (by decide) (by decide), rfl, rfl⟩ nf)) a_nil)) (RF.mk (m := 10) (n := 10) (by omega) (by omega) (by omega))) a_nil)) (.cons (.cons .nil)) (show 2 ≤ 100000 by decide))) ?_
  generalize (pulM (pulM C2 3 4).2 2 9).1 = w1 at *
  generalize (pulM (pulM C2 3 4).2 2 9).2 = C4 at *
  generalize (pulM C2 3 4).1 = w0 at *
  clear a1 a2 a3 a4 a5 a6 b1 b2 b3 b4 b5 b6 ok3
  have h0 : Wk p0 s0 w0 := ⟨x0.mono (by decide) (by decide), y0.mono (by decide) (by decide), z0⟩
  have h1 : Wk p1 s1 w1 := ⟨x1.mono (by decide) (by decide), y1.mono (by decide) (by decide), z1⟩
  obtain ⟨ok5, n0, n1⟩ := take_ok (C := C4) (m := 12) ok4 (by decide)
  refine s_seq (s_asg (e_draw (R := RTake) (ds := [.i 12]) (C := C4) (a_cons (e_var rfl) (a_cons e_int a_nil)) ⟨_, rfl, ok4, by decide, sz_le (m := 5) (by decide) (by decide), rfl, rfl⟩ nf)) ?_
  obtain ⟨n, hn⟩ : ∃ n : Nat, (take C4 12).1 = (n : Nat) := ⟨(take C4 12).1.toNat, by omega⟩
  rw [hn] at n0 n1 ⊢
  generalize (take C4 12).2 = C5 at *
  clear hn
  refine q_asg (d := .d (.list [vcd (walkP p0 s0 w0 0) (walkP p1 s1 w1 0), vcd (walkV s0 w0 0) (walkV s1 w1 0)])) (e_lst (ds := [.d (vcd p0 p1), .d (vcd s0 s1)]) (a_cons (e_var (i := 2) rfl) (a_cons (e_var (i := 3) rfl) a_nil)) (.cons (.cons .nil)) (show 2 ≤ 100000 by decide)) ?_
  refine q_asg (d := .d (stD (sta1 (walkP p0 s0 w0 0) (walkP p1 s1 w1 0) (walkV s0 w0 0) (walkV s1 w1 0) w0 w1))) (p_tup (ds := [.t [bdD (bd1 p0 p1 s0 s1)], .t [], .d (vcd w0 w1)]) (p_cons (p_tup (ds := [.d (bdD (bd1 p0 p1 s0 s1))]) (p_cons (p_tup (ds := [.i 3, .d (vcd p0 p1), .t [fr (1, 1), fr (1, 1)], .i 2, .d (fr (0, 1)), .d (vcd s0 s1)]) (p_cons e_int (p_cons (e_var (i := 2) rfl) (p_cons (p_tup2 (p_cons (p_tup2 (x := .int 1) (y := .int 1) (p_cons e_int (p_cons e_int a_nil))) (p_cons (p_tup2 (x := .int 1) (y := .int 1) (p_cons e_int (p_cons e_int a_nil))) a_nil))) (p_cons e_int (p_cons (p_tup2 (x := .int 0) (y := .int 1) (p_cons e_int (p_cons e_int a_nil))) (p_cons (e_var (i := 3) rfl) a_nil)))))) (.cons (.cons (.cons (.cons (.cons (.cons .nil)))))) (show 6 ≤ 100000 by decide)) a_nil) (.cons .nil) (show 1 ≤ 100000 by decide)) (p_cons (e_u2t (e_tupD a_nil .nil (by decide))) (p_cons (e_var (i := 4) rfl) a_nil))) (.cons (.cons (.cons .nil))) (show 3 ≤ 100000 by decide)) ?_
  refine s_loop (α := Nat) (W := fun i a => a = i) (P := fun a => [some (.d (.list (ns.map PyData.int))), some (.r p), some (.d (vcd p0 p1)), some (.d (vcd s0 s1)), some (.d (vcd w0 w1)), some (.i (n : Nat)), some (.d (.list [vcd (walkP p0 s0 w0 a) (walkP p1 s1 w1 a), vcd (walkV s0 w0 a) (walkV s1 w1 a)])), some (.d (stD (sta1 (walkP p0 s0 w0 a) (walkP p1 s1 w1 a) (walkV s0 w0 a) (walkV s1 w1 a) w0 w1))), none, none, none, none, none, none, none, none, none, none, none]) (V := fun _ => dJ K p C5 (.tab Tp.tabs)) 0 rfl (iw_r (n := n) (p_cons (e_var (i := 5) rfl) a_nil) (by omega)) rfl (fun i a hi hw => ?_) (fun a hw => ?_)
  · subst hw
    refine ⟨_, g_name, .inl ⟨a + 1, rfl, ?_⟩⟩
    have ev0 : lplus (walkV s0 w0 a) w0 = walkV s0 w0 (a + 1) := lplus_eq (walkV_nrm h0.s.nrm h0.w.nrm a) h0.w.nrm
    have ev1 : lplus (walkV s1 w1 a) w1 = walkV s1 w1 (a + 1) := lplus_eq (walkV_nrm h1.s.nrm h1.w.nrm a) h1.w.nrm
    have ep0 : lplus (walkP p0 s0 w0 a) (walkV s0 w0 (a + 1)) = walkP p0 s0 w0 (a + 1) := lplus_eq (walkP_nrm h0.p.nrm h0.s.nrm h0.w.nrm a) (walkV_nrm h0.s.nrm h0.w.nrm (a + 1))
    have ep1 : lplus (walkP p1 s1 w1 a) (walkV s1 w1 (a + 1)) = walkP p1 s1 w1 (a + 1) := lplus_eq (walkP_nrm h1.p.nrm h1.s.nrm h1.w.nrm a) (walkV_nrm h1.s.nrm h1.w.nrm (a + 1))
    have ef0 : frV (walkV s0 w0 a) w0 = walkV s0 w0 (a + 1) := frV_eq (walkV_nrm h0.s.nrm h0.w.nrm a) h0.w.nrm
    have ef1 : frV (walkV s1 w1 a) w1 = walkV s1 w1 (a + 1) := frV_eq (walkV_nrm h1.s.nrm h1.w.nrm a) h1.w.nrm
    refine q_asg (d := .d (vcd (walkV s0 w0 (a + 1)) (walkV s1 w1 (a + 1)))) (p_tup2 (p_cons (e_is (p_call (T := noT) (R := RPlus lplus) (ds := [.d (fr (walkV s0 w0 a)), .d (fr w0)]) (p_cons (p_ixT (ds := [fr (walkV s0 w0 a), fr (walkV s1 w1 a)]) (i := 0) (e_ixL (j := 1) (e_var (i := 6) rfl) e_int rfl) e_int rfl) (p_cons (p_ixT (ds := [fr w0, fr w1]) (i := 0) (e_var (i := 4) rfl) e_int rfl) a_nil)) (RPlus.mk (wk_v h0 (k := a) (by omega)) (wk_w h0))) (by rw [ev0])) (p_cons (e_is (p_call (T := noT) (R := RPlus lplus) (ds := [.d (fr (walkV s1 w1 a)), .d (fr w1)]) (p_cons (p_ixT (ds := [fr (walkV s0 w0 a), fr (walkV s1 w1 a)]) (i := 1) (e_ixL (j := 1) (e_var (i := 6) rfl) e_int rfl) e_int rfl) (p_cons (p_ixT (ds := [fr w0, fr w1]) (i := 1) (e_var (i := 4) rfl) e_int rfl) a_nil)) (RPlus.mk (wk_v h1 (k := a) (by omega)) (wk_w h1))) (by rw [ev1])) a_nil))) ?_
    refine q_asg (d := .d (.list [vcd (walkP p0 s0 w0 (a + 1)) (walkP p1 s1 w1 (a + 1)), vcd (walkV s0 w0 (a + 1)) (walkV s1 w1 (a + 1))])) (e_lst (ds := [.d (vcd (walkP p0 s0 w0 (a + 1)) (walkP p1 s1 w1 (a + 1))), .d (vcd (walkV s0 w0 (a + 1)) (walkV s1 w1 (a + 1)))]) (a_cons (p_tup2 (p_cons (e_is (p_call (T := noT) (R := RPlus lplus) (ds := [.d (fr (walkP p0 s0 w0 a)), .d (fr (walkV s0 w0 (a + 1)))]) (p_cons (p_ixT (ds := [fr (walkP p0 s0 w0 a), fr (walkP p1 s1 w1 a)]) (i := 0) (e_ixL (j := 0) (e_var (i := 6) rfl) e_int rfl) e_int rfl) (p_cons (p_ixT (ds := [fr (walkV s0 w0 (a + 1)), fr (walkV s1 w1 (a + 1))]) (i := 0) (e_var (i := 9) rfl) e_int rfl) a_nil)) (RPlus.mk (wk_p h0 (k := a) (by omega)) (wk_v h0 (k := a + 1) (by omega)))) (by rw [ep0])) (p_cons (e_is (p_call (T := noT) (R := RPlus lplus) (ds := [.d (fr (walkP p1 s1 w1 a)), .d (fr (walkV s1 w1 (a + 1)))]) (p_cons (p_ixT (ds := [fr (walkP p0 s0 w0 a), fr (walkP p1 s1 w1 a)]) (i := 1) (e_ixL (j := 0) (e_var (i := 6) rfl) e_int rfl) e_int rfl) (p_cons (p_ixT (ds := [fr (walkV s0 w0 (a + 1)), fr (walkV s1 w1 (a + 1))]) (i := 1) (e_var (i := 9) rfl) e_int rfl) a_nil)) (RPlus.mk (wk_p h1 (k := a) (by omega)) (wk_v h1 (k := a + 1) (by omega)))) (by rw [ep1])) a_nil))) (a_cons (e_var (i := 9) rfl) a_nil)) (.cons (.cons .nil)) (show 2 ≤ 100000 by decide)) ?_
    refine s_lessN (ρ' := [some (.d (.list (ns.map PyData.int))), some (.r p), some (.d (vcd p0 p1)), some (.d (vcd s0 s1)), some (.d (vcd w0 w1)), some (.i (n : Nat)), some (.d (.list [vcd (walkP p0 s0 w0 (a + 1)) (walkP p1 s1 w1 (a + 1)), vcd (walkV s0 w0 (a + 1)) (walkV s1 w1 (a + 1))])), some (.d (stD (sta1 (walkP p0 s0 w0 (a + 1)) (walkP p1 s1 w1 (a + 1)) (walkV s0 w0 (a + 1)) (walkV s1 w1 (a + 1)) w0 w1))), some (.i (a : Nat)), some (.d (vcd (walkV s0 w0 (a + 1)) (walkV s1 w1 (a + 1)))), none, none, none, none, none, none, none, none, none]) ⟨.inr rfl, .inr rfl, .inr rfl, .inr rfl, .inr rfl, .inr rfl, .inr rfl, .inr rfl, .inl rfl, .inl rfl, .inr rfl, .inr rfl, .inr rfl, .inr rfl, .inr rfl, .inr rfl, .inr rfl, .inr rfl, .inr rfl, trivial⟩ ?_
    have tk : RTick1 [.d (stD (sta1 (walkP p0 s0 w0 a) (walkP p1 s1 w1 a) (walkV s0 w0 a) (walkV s1 w1 a) w0 w1)), .u []] (.ok (.d (.tuple [(stD (sta1 (walkP p0 s0 w0 (a + 1)) (walkP p1 s1 w1 (a + 1)) (walkV s0 w0 (a + 1)) (walkV s1 w1 (a + 1)) w0 w1)), .tuple []]))) := ⟨_, _, _, _, _, _, rfl, wk_on h0 h1 (k := a) (by omega), by rw [ef0, ef1]; rfl⟩
    exact p_asg (p_ixT (ds := [(stD (sta1 (walkP p0 s0 w0 (a + 1)) (walkP p1 s1 w1 (a + 1)) (walkV s0 w0 (a + 1)) (walkV s1 w1 (a + 1)) w0 w1)), .tuple []]) (i := 0) (e_callX (tabs := Tp.tabs) (R := RTick1) (ds := [.d (stD (sta1 (walkP p0 s0 w0 a) (walkP p1 s1 w1 a) (walkV s0 w0 a) (walkV s1 w1 a) w0 w1)), .u []]) (p_cons (e_var (i := 7) rfl) (p_cons (e_tupD a_nil .nil (by decide)) a_nil)) tk) e_int rfl)
  subst hw
  clear ok1 ok2 ok4 x0 x1 y0 y1 z0 z1
  
  obtain ⟨n, rfl⟩ : ∃ n, n = a := ⟨a, rfl⟩
  have k0 := wk_110 h0
  have k1 := wk_110 h1
  refine q_skip (t_or (p_test (e_neD (x := (.tuple [vcd (walkP p0 s0 w0 n) (walkP p1 s1 w1 n), vcd (walkV s0 w0 n) (walkV s1 w1 n)])) (y := (.tuple [vcd (walkP p0 s0 w0 n) (walkP p1 s1 w1 n), vcd (walkV s0 w0 n) (walkV s1 w1 n)])) (e_is (p_call (T := noT) (R := RToldFl) (ds := [.i 0, .d (vcd p0 p1), .d (vcd s0 s1), .d (vcd w0 w1), .i 0, .i (n : Nat)]) (d := _) (p_cons e_int (p_cons (e_var (i := 2) rfl) (p_cons (e_var (i := 3) rfl) (p_cons (e_var (i := 4) rfl) (p_cons e_int (p_cons (e_var (i := 5) rfl) a_nil)))))) (.inl ⟨p0, p1, s0, s1, w0, w1, 0, (n : Nat), rfl, (k0.1.mono (by decide)), (k1.1.mono (by decide)), k0.2.1, k1.2.1, k0.2.2, k1.2.2, .inl ⟨by omega, by omega, rfl⟩⟩)) (by rw [fly_p h0 (by omega), fly_p h1 (by omega), fly_v h0, fly_v h1])) (p_tup2 (x := vcd (walkP p0 s0 w0 n) (walkP p1 s1 w1 n)) (y := vcd (walkV s0 w0 n) (walkV s1 w1 n)) (p_cons (e_ixL (j := 0) (e_var (i := 6) rfl) e_int rfl) (p_cons (e_ixL (j := 1) (e_var (i := 6) rfl) e_int rfl) a_nil))) rfl rfl)) fun _ => p_test (e_neD (x := (.tuple [vcd (walkP p0 s0 w0 n) (walkP p1 s1 w1 n), vcd (walkV s0 w0 n) (walkV s1 w1 n)])) (y := (.tuple [vcd (walkP p0 s0 w0 n) (walkP p1 s1 w1 n), vcd (walkV s0 w0 n) (walkV s1 w1 n)])) (p_tup2 (x := vcd (walkP p0 s0 w0 n) (walkP p1 s1 w1 n)) (y := vcd (walkV s0 w0 n) (walkV s1 w1 n)) (p_cons (p_ixT (ds := [.int 3, vcd (walkP p0 s0 w0 n) (walkP p1 s1 w1 n), vcd (1, 1) (1, 1), .int 2, fr (0, 1), vcd (walkV s0 w0 n) (walkV s1 w1 n)]) (i := 1) (p_ixT (ds := [.tuple [.int 3, vcd (walkP p0 s0 w0 n) (walkP p1 s1 w1 n), vcd (1, 1) (1, 1), .int 2, fr (0, 1), vcd (walkV s0 w0 n) (walkV s1 w1 n)]]) (i := 0) (p_ixT (ds := [.tuple [.tuple [.int 3, vcd (walkP p0 s0 w0 n) (walkP p1 s1 w1 n), vcd (1, 1) (1, 1), .int 2, fr (0, 1), vcd (walkV s0 w0 n) (walkV s1 w1 n)]], .tuple [], vcd w0 w1]) (i := 0) (e_var (i := 7) rfl) e_int rfl) e_int rfl) e_int rfl) (p_cons (p_ixT (ds := [.int 3, vcd (walkP p0 s0 w0 n) (walkP p1 s1 w1 n), vcd (1, 1) (1, 1), .int 2, fr (0, 1), vcd (walkV s0 w0 n) (walkV s1 w1 n)]) (i := 5) (p_ixT (ds := [.tuple [.int 3, vcd (walkP p0 s0 w0 n) (walkP p1 s1 w1 n), vcd (1, 1) (1, 1), .int 2, fr (0, 1), vcd (walkV s0 w0 n) (walkV s1 w1 n)]]) (i := 0) (p_ixT (ds := [.tuple [.tuple [.int 3, vcd (walkP p0 s0 w0 n) (walkP p1 s1 w1 n), vcd (1, 1) (1, 1), .int 2, fr (0, 1), vcd (walkV s0 w0 n) (walkV s1 w1 n)]], .tuple [], vcd w0 w1]) (i := 0) (e_var (i := 7) rfl) e_int rfl) e_int rfl) e_int rfl) a_nil))) (p_tup2 (x := vcd (walkP p0 s0 w0 n) (walkP p1 s1 w1 n)) (y := vcd (walkV s0 w0 n) (walkV s1 w1 n)) (p_cons (e_ixL (j := 0) (e_var (i := 6) rfl) e_int rfl) (p_cons (e_ixL (j := 1) (e_var (i := 6) rfl) e_int rfl) a_nil))) rfl rfl)) (by rw [eqv_two]; rfl) ?_
  refine s_loopN (α := DS) (W := fun _ C6 => DOk C6) (P := fun _ => [some (.d (.list (ns.map PyData.int))), some (.r p), some (.d (vcd p0 p1)), some (.d (vcd s0 s1)), some (.d (vcd w0 w1)), some (.i (n : Nat)), some (.d (.list [vcd (walkP p0 s0 w0 n) (walkP p1 s1 w1 n), vcd (walkV s0 w0 n) (walkV s1 w1 n)])), some (.d (stD (sta1 (walkP p0 s0 w0 n) (walkP p1 s1 w1 n) (walkV s0 w0 n) (walkV s1 w1 n) w0 w1))), none, none, none, none, none, none, none, none, none, none, none]) (V := fun C6 => dJ K p C6 (.tab Tp.tabs)) C5 ok5 (e_iwn (m := 2) (iw_t (ds := [.int 0, .int 1]) (p_tup2 (x := .int 0) (y := .int 1) (p_cons e_int (p_cons e_int a_nil)))) rfl) rfl (fun i C6 hi ok6 => ?_) (fun C6 ok6 => ?_)
  · have ii : i = 0 ∨ i = 1 := by omega
    rcases ii with rfl | rfl
    · refine ⟨[some (.d (.list (ns.map PyData.int))), some (.r p), some (.d (vcd p0 p1)), some (.d (vcd s0 s1)), some (.d (vcd w0 w1)), some (.i (n : Nat)), some (.d (.list [vcd (walkP p0 s0 w0 n) (walkP p1 s1 w1 n), vcd (walkV s0 w0 n) (walkV s1 w1 n)])), some (.d (stD (sta1 (walkP p0 s0 w0 n) (walkP p1 s1 w1 n) (walkV s0 w0 n) (walkV s1 w1 n) w0 w1))), none, none, some (.i 0), none, none, none, none, none, none, none, none], g_name, .inl ?_⟩
      refine q_asg (d := .d (.list ((walkL p0 s0 w0 60).map fr))) (p_call (T := noT) (R := RWalk) (ds := [.d (fr p0), .d (fr s0), .d (fr w0), .i ((60 : Nat) : Int)]) (p_cons (p_ixT (ds := [fr p0, fr p1]) (i := 0) (e_var (i := 2) rfl) (e_var (i := 10) rfl) rfl) (p_cons (p_ixT (ds := [fr s0, fr s1]) (i := 0) (e_var (i := 3) rfl) (e_var (i := 10) rfl) rfl) (p_cons (p_ixT (ds := [fr w0, fr w1]) (i := 0) (e_var (i := 4) rfl) (e_var (i := 10) rfl) rfl) (p_cons e_int a_nil)))) ⟨p0, s0, w0, 60, rfl, h0, by decide, rfl⟩) ?_
      refine s_seqX (α := F × DS) (fun z => DOk z.2 ∧ PL.Ok 50 z.1) (fun z => [some (.d (.list (ns.map PyData.int))), some (.r p), some (.d (vcd p0 p1)), some (.d (vcd s0 s1)), some (.d (vcd w0 w1)), some (.i (n : Nat)), some (.d (.list [vcd (walkP p0 s0 w0 n) (walkP p1 s1 w1 n), vcd (walkV s0 w0 n) (walkV s1 w1 n)])), some (.d (stD (sta1 (walkP p0 s0 w0 n) (walkP p1 s1 w1 n) (walkV s0 w0 n) (walkV s1 w1 n) w0 w1))), none, none, some (.i 0), some (.d (.list ((walkL p0 s0 w0 60).map fr))), some (.d (fr z.1)), none, none, none, none, none, none]) (fun z => dJ K p z.2 (.tab Tp.tabs)) ?_ fun z hz => ?_
      · obtain ⟨oc, t1, t2⟩ := take_ok (C := C6) (m := 3) ok6 (by decide)
        by_cases c : (take C6 3).1 = 1
        · obtain ⟨od, j1, j2⟩ := take_ok (C := (take C6 3).2) (m := 30) oc (by decide)
          obtain ⟨j, hj⟩ : ∃ j : Nat, (take (take C6 3).2 30).1 = (j : Nat) := ⟨(take (take C6 3).2 30).1.toNat, by omega⟩
          refine ⟨(walkP p0 s0 w0 j, (take (take C6 3).2 30).2), ⟨od, (wk_p h0 (k := j) (by omega)).mono (by decide)⟩, s_asg (e_ifT (t_is (t_test (e_eqI (i := (take C6 3).1) (j := 1) (e_draw (R := RTake) (ds := [.i 3]) (C := C6) (a_cons (e_var (i := 1) rfl) (a_cons e_int a_nil)) ⟨_, rfl, ok6, by decide, sz_le (m := 7) (by decide) (by decide), rfl, rfl⟩ nf) e_int)) (decide_eq_true c)) (e_ixL (j := j) (e_var (i := 11) rfl) (e_is (e_draw (R := RTake) (ds := [.i 30]) (C := (take C6 3).2) (a_cons (e_var (i := 1) rfl) (a_cons e_int a_nil)) ⟨_, rfl, oc, by decide, sz_le (m := 7) (by decide) (by decide), rfl, rfl⟩ nf) (by rw [hj])) (walkL_at (by omega))))⟩
        · obtain ⟨od, j1⟩ := part_sm (C := (take C6 3).2) (m := 6) oc (by decide)
          have o6 : PL.Ok 15 (partM (take C6 3).2 ((6 : Nat) : Int)).1 := sm_ok (j1.mono (E := 2520) (by decide) (Nat.le_refl _)) (by decide) (by decide)
          have o7 : PL.Ok 50 (lplus p0 (partM (take C6 3).2 ((6 : Nat) : Int)).1) := by
            rw [lplus_eq h0.p.nrm o6.nrm]
            exact (ok_plus (wk_p h0 (k := 0) (by decide)) o6).mono (by decide)
          exact ⟨(lplus p0 (partM (take C6 3).2 ((6 : Nat) : Int)).1, (partM (take C6 3).2 ((6 : Nat) : Int)).2), ⟨od, o7⟩, s_asg (e_ifF (t_is (t_test (e_eqI (i := (take C6 3).1) (j := 1) (e_draw (R := RTake) (ds := [.i 3]) (C := C6) (a_cons (e_var (i := 1) rfl) (a_cons e_int a_nil)) ⟨_, rfl, ok6, by decide, sz_le (m := 7) (by decide) (by decide), rfl, rfl⟩ nf) e_int)) (decide_eq_false c)) (e_call (T := noT) (R := RPlus lplus) (ds := [.d (fr p0), .d (fr (partM (take C6 3).2 ((6 : Nat) : Int)).1)]) (a_cons (p_ixT (ds := [fr p0, fr p1]) (i := 0) (e_var (i := 2) rfl) (e_var (i := 10) rfl) rfl) (a_cons (e_draw (R := RPart) (ds := [.i ((6 : Nat) : Int)]) (C := (take C6 3).2) (a_cons (e_var (i := 1) rfl) (a_cons e_int a_nil)) ⟨_, rfl, oc, by decide, sz_le (m := 7) (by decide) (by decide), rfl, rfl⟩ nf) a_nil)) (RPlus.mk k0.1 o6)))⟩
      obtain ⟨l, C7⟩ := z
      obtain ⟨ok7, hl7⟩ := hz
      replace ok7 : DOk C7 := ok7
      replace hl7 : PL.Ok 50 l := hl7
      dsimp only
      refine s_seqX (α := Nat × DS) (fun z => DOk z.2 ∧ 1 ≤ z.1 ∧ z.1 ≤ 1000000) (fun z => [some (.d (.list (ns.map PyData.int))), some (.r p), some (.d (vcd p0 p1)), some (.d (vcd s0 s1)), some (.d (vcd w0 w1)), some (.i (n : Nat)), some (.d (.list [vcd (walkP p0 s0 w0 n) (walkP p1 s1 w1 n), vcd (walkV s0 w0 n) (walkV s1 w1 n)])), some (.d (stD (sta1 (walkP p0 s0 w0 n) (walkP p1 s1 w1 n) (walkV s0 w0 n) (walkV s1 w1 n) w0 w1))), none, none, some (.i 0), some (.d (.list ((walkL p0 s0 w0 60).map fr))), some (.d (fr l)), some (.i (z.1 : Nat)), none, none, none, none, none]) (fun z => dJ K p z.2 (.tab Tp.tabs)) ?_ fun z hz => ?_
      · obtain ⟨oc, t1, t2⟩ := take_ok (C := C7) (m := 60) ok7 (by decide)
        obtain ⟨od, r1, r2⟩ := take_ok (C := (take C7 60).2) (m := 3) oc (by decide)
        obtain ⟨x, hx⟩ : ∃ x : Nat, (take C7 60).1 = (x : Nat) := ⟨(take C7 60).1.toNat, by omega⟩
        obtain ⟨j, hj⟩ : ∃ j : Nat, (take (take C7 60).2 3).1 = (j : Nat) := ⟨(take (take C7 60).2 3).1.toNat, by omega⟩
        have j3 : j = 0 ∨ j = 1 ∨ j = 2 := by omega
        rcases j3 with rfl | rfl | rfl
        · exact ⟨(60, (take (take C7 60).2 3).2), ⟨od, show 1 ≤ 60 by decide, show 60 ≤ 1000000 by decide⟩, s_asg (e_ixT (j := 0) (e_tup (ρ := [some (.d (.list (ns.map PyData.int))), some (.r p), some (.d (vcd p0 p1)), some (.d (vcd s0 s1)), some (.d (vcd w0 w1)), some (.i (n : Nat)), some (.d (.list [vcd (walkP p0 s0 w0 n) (walkP p1 s1 w1 n), vcd (walkV s0 w0 n) (walkV s1 w1 n)])), some (.d (stD (sta1 (walkP p0 s0 w0 n) (walkP p1 s1 w1 n) (walkV s0 w0 n) (walkV s1 w1 n) w0 w1))), none, none, some (.i 0), some (.d (.list ((walkL p0 s0 w0 60).map fr))), some (.d (fr l)), none, none, none, none, none, none]) (I := dJ K p C7 (.tab Tp.tabs)) (ds := [.i 60, .i ((1 + x : Nat) : Int), .i 1000000]) (a_cons e_int (a_cons (e_is (e_add (i := 1) (j := (take C7 60).1) e_int (e_draw (R := RTake) (ds := [.i 60]) (C := C7) (a_cons (e_var (i := 1) rfl) (a_cons e_int a_nil)) ⟨_, rfl, ok7, by decide, sz_le (m := 7) (by decide) (by decide), rfl, rfl⟩ nf)) (by rw [hx]; rfl)) (a_cons e_int a_nil))) (.cons (.cons (.cons .nil))) (show 3 ≤ 100000 by decide)) (e_is (e_draw (R := RTake) (ds := [.i 3]) (C := (take C7 60).2) (a_cons (e_var (i := 1) rfl) (a_cons e_int a_nil)) ⟨_, rfl, oc, by decide, sz_le (m := 7) (by decide) (by decide), rfl, rfl⟩ nf) (by rw [hj])) rfl)⟩
        · exact ⟨(1 + x, (take (take C7 60).2 3).2), ⟨od, by dsimp only; omega, by dsimp only; omega⟩, s_asg (e_ixT (j := 1) (e_tup (ρ := [some (.d (.list (ns.map PyData.int))), some (.r p), some (.d (vcd p0 p1)), some (.d (vcd s0 s1)), some (.d (vcd w0 w1)), some (.i (n : Nat)), some (.d (.list [vcd (walkP p0 s0 w0 n) (walkP p1 s1 w1 n), vcd (walkV s0 w0 n) (walkV s1 w1 n)])), some (.d (stD (sta1 (walkP p0 s0 w0 n) (walkP p1 s1 w1 n) (walkV s0 w0 n) (walkV s1 w1 n) w0 w1))), none, none, some (.i 0), some (.d (.list ((walkL p0 s0 w0 60).map fr))), some (.d (fr l)), none, none, none, none, none, none]) (I := dJ K p C7 (.tab Tp.tabs)) (ds := [.i 60, .i ((1 + x : Nat) : Int), .i 1000000]) (a_cons e_int (a_cons (e_is (e_add (i := 1) (j := (take C7 60).1) e_int (e_draw (R := RTake) (ds := [.i 60]) (C := C7) (a_cons (e_var (i := 1) rfl) (a_cons e_int a_nil)) ⟨_, rfl, ok7, by decide, sz_le (m := 7) (by decide) (by decide), rfl, rfl⟩ nf)) (by rw [hx]; rfl)) (a_cons e_int a_nil))) (.cons (.cons (.cons .nil))) (show 3 ≤ 100000 by decide)) (e_is (e_draw (R := RTake) (ds := [.i 3]) (C := (take C7 60).2) (a_cons (e_var (i := 1) rfl) (a_cons e_int a_nil)) ⟨_, rfl, oc, by decide, sz_le (m := 7) (by decide) (by decide), rfl, rfl⟩ nf) (by rw [hj])) rfl)⟩
        · exact ⟨(1000000, (take (take C7 60).2 3).2), ⟨od, show 1 ≤ 1000000 by decide, show 1000000 ≤ 1000000 by decide⟩, s_asg (e_ixT (j := 2) (e_tup (ρ := [some (.d (.list (ns.map PyData.int))), some (.r p), some (.d (vcd p0 p1)), some (.d (vcd s0 s1)), some (.d (vcd w0 w1)), some (.i (n : Nat)), some (.d (.list [vcd (walkP p0 s0 w0 n) (walkP p1 s1 w1 n), vcd (walkV s0 w0 n) (walkV s1 w1 n)])), some (.d (stD (sta1 (walkP p0 s0 w0 n) (walkP p1 s1 w1 n) (walkV s0 w0 n) (walkV s1 w1 n) w0 w1))), none, none, some (.i 0), some (.d (.list ((walkL p0 s0 w0 60).map fr))), some (.d (fr l)), none, none, none, none, none, none]) (I := dJ K p C7 (.tab Tp.tabs)) (ds := [.i 60, .i ((1 + x : Nat) : Int), .i 1000000]) (a_cons e_int (a_cons (e_is (e_add (i := 1) (j := (take C7 60).1) e_int (e_draw (R := RTake) (ds := [.i 60]) (C := C7) (a_cons (e_var (i := 1) rfl) (a_cons e_int a_nil)) ⟨_, rfl, ok7, by decide, sz_le (m := 7) (by decide) (by decide), rfl, rfl⟩ nf)) (by rw [hx]; rfl)) (a_cons e_int a_nil))) (.cons (.cons (.cons .nil))) (show 3 ≤ 100000 by decide)) (e_is (e_draw (R := RTake) (ds := [.i 3]) (C := (take C7 60).2) (a_cons (e_var (i := 1) rfl) (a_cons e_int a_nil)) ⟨_, rfl, oc, by decide, sz_le (m := 7) (by decide) (by decide), rfl, rfl⟩ nf) (by rw [hj])) rfl)⟩
      obtain ⟨m, C8⟩ := z
      obtain ⟨ok8, m1, m2⟩ := hz
      replace ok8 : DOk C8 := ok8
      replace m1 : 1 ≤ m := m1
      replace m2 : m ≤ 1000000 := m2
      dsimp only
      have tk : ((walkL p0 s0 w0 60).map fr).take (m + 1) = (walkL p0 s0 w0 (min m 60)).map fr := by
        by_cases z : m ≤ 60
        · rw [Nat.min_eq_left z]
          exact walkL_take p0 s0 w0 z
        · rw [Nat.min_eq_right (by omega)]
          exact walkL_take2 p0 s0 w0 (by omega)
      refine q_asg (d := .d (optP (crossQ p0 s0 w0 l (min m 60)))) (e_is (p_call (T := noT) (R := RLCross) (ds := [.d (.list ((walkL p0 s0 w0 (min m 60)).map fr)), .d (fr l)]) (d := optN (crossQ p0 s0 w0 l (min m 60))) (p_cons (e_is (e_l2d (e_sliceTo (j := m + 1) (ds := (walkL p0 s0 w0 60).map fr) (e_var (i := 11) rfl) (e_is (p_add (i := (m : Nat)) (j := 1) (e_var (i := 13) rfl) e_int) rfl))) (by rw [tk])) (p_cons (e_var (i := 12) rfl) a_nil)) ⟨p0, s0, w0, l, min m 60, rfl, h0, hl7, by omega, by omega, rfl⟩) (optN_p _)) ?_
      refine q_asg (d := .d (optP (crossQ p0 s0 w0 l m))) (e_is (p_call (T := noT) (R := RToldFl) (ds := [.i 1, .d (fr p0), .d (fr s0), .d (fr w0), .d (fr l), .i (m : Nat)]) (d := optN (crossQ p0 s0 w0 l m)) (p_cons e_int (p_cons (p_ixT (ds := [fr p0, fr p1]) (i := 0) (e_var (i := 2) rfl) (e_var (i := 10) rfl) rfl) (p_cons (p_ixT (ds := [fr s0, fr s1]) (i := 0) (e_var (i := 3) rfl) (e_var (i := 10) rfl) rfl) (p_cons (p_ixT (ds := [fr w0, fr w1]) (i := 0) (e_var (i := 4) rfl) (e_var (i := 10) rfl) rfl) (p_cons (e_var (i := 12) rfl) (p_cons (e_var (i := 13) rfl) a_nil)))))) (.inr ⟨p0, s0, w0, l, (m : Nat), rfl, k0.1, k0.2.1, k0.2.2, hl7, .inl ⟨by omega, by omega, by rw [Int.toNat_natCast]⟩⟩)) (optN_p _)) ?_
      have cmp : crossQ p0 s0 w0 l m = crossQ p0 s0 w0 l (min m 60) ∨ (crossQ p0 s0 w0 l (min m 60) = none ∧ ∃ r : Nat, crossQ p0 s0 w0 l m = some r ∧ 60 < r ∧ 60 < m) := by
        by_cases z : m ≤ 60
        · exact .inl (by rw [Nat.min_eq_left z])
        · obtain ⟨a_, v_, u_, eQ, _⟩ := crossQ_at h0 hl7
          rw [eQ, eQ]
          rcases crossT_more (a := a_) (v := v_) (u := u_) (show min m 60 ≤ m from Nat.min_le_left ..) with e | ⟨e, r, e2, hr⟩
          · exact .inl e
          · exact .inr ⟨e, r, e2, by omega, by omega⟩
      refine s_seq (ρ1 := [some (.d (.list (ns.map PyData.int))), some (.r p), some (.d (vcd p0 p1)), some (.d (vcd s0 s1)), some (.d (vcd w0 w1)), some (.i (n : Nat)), some (.d (.list [vcd (walkP p0 s0 w0 n) (walkP p1 s1 w1 n), vcd (walkV s0 w0 n) (walkV s1 w1 n)])), some (.d (stD (sta1 (walkP p0 s0 w0 n) (walkP p1 s1 w1 n) (walkV s0 w0 n) (walkV s1 w1 n) w0 w1))), none, none, some (.i 0), some (.d (.list ((walkL p0 s0 w0 60).map fr))), some (.d (fr l)), some (.i (m : Nat)), some (.d (optP (crossQ p0 s0 w0 l (min m 60)))), some (.d (optP (crossQ p0 s0 w0 l m))), none, none, none]) (J := dJ K p C8 (.tab Tp.tabs)) ?_ ?_
      · rcases cmp with e | ⟨e, r, e2, hr, hm⟩
        · rw [e]
          exact q_ifF (t_andF (t_is (p_test (e_neD (x := optP (crossQ p0 s0 w0 l (min m 60))) (y := optP (crossQ p0 s0 w0 l (min m 60))) (e_var (i := 15) rfl) (e_var (i := 14) rfl) (sh_opt _) (sh_opt _))) (by rw [optP_eqv, decide_eq_true rfl]; rfl))) rfl s_next
        · rw [e, e2]
          exact q_ifF (t_and (p_test (e_neD (x := optP (some r)) (y := optP none) (e_var (i := 15) rfl) (e_var (i := 14) rfl) (sh_opt _) (sh_opt _))) fun _ => t_or (p_test (p_le (i := (m : Nat)) (j := 60) (e_var (i := 13) rfl) e_int)) fun _ => t_or (p_test (e_notN (x := .none) (e_var (i := 14) rfl) e_non)) fun _ => t_and (p_test (e_notN (x := .int (r : Nat)) (e_var (i := 15) rfl) e_non)) fun _ => p_test (p_le (i := (r : Nat)) (j := 60) (e_var (i := 15) rfl) e_int)) (by rw [decide_eq_false (show ¬ ((m : Nat) : Int) ≤ 60 by omega), decide_eq_false (show ¬ ((r : Nat) : Int) ≤ 60 by omega)]; show (_ && (false || (false || (true && false)))) = false; rw [show (false || (false || (true && false))) = false from rfl, Bool.and_false]) s_next
      clear cmp tk
      have hs2 : ∀ t ∈ [s0, w0], PL.Ok 110 t := fun t ht => by
        rcases List.mem_cons.mp ht with rfl | ht
        · exact k0.2.1
        · rw [List.mem_singleton.mp ht]
          exact k0.2.2
      have c0 := den_p hs2
      have evv := num_c hs2 (t := s0) (by simp)
      have eu := num_c hs2 (t := w0) (by simp)
      have rt : RTop [.d (fr s0), .d (fr w0)] (optI (topF (s0.1 * (((denM [s0, w0] : Nat) : Int) / s0.2)) (w0.1 * (((denM [s0, w0] : Nat) : Int) / w0.2)))) := ⟨s0, w0, rfl, k0.2.1, k0.2.2, rfl⟩
      generalize s0.1 * (((denM [s0, w0] : Nat) : Int) / s0.2) = v at *
      generalize w0.1 * (((denM [s0, w0] : Nat) : Int) / w0.2) = u at *
      generalize denM [s0, w0] = c at *
      refine q_asg (d := .i ((0 : Nat) : Int)) e_int ?_
      refine s_loop (α := Nat) (W := fun i b => Bst v u i b) (P := fun b => [some (.d (.list (ns.map PyData.int))), some (.r p), some (.d (vcd p0 p1)), some (.d (vcd s0 s1)), some (.d (vcd w0 w1)), some (.i (n : Nat)), some (.d (.list [vcd (walkP p0 s0 w0 n) (walkP p1 s1 w1 n), vcd (walkV s0 w0 n) (walkV s1 w1 n)])), some (.d (stD (sta1 (walkP p0 s0 w0 n) (walkP p1 s1 w1 n) (walkV s0 w0 n) (walkV s1 w1 n) w0 w1))), none, none, some (.i 0), some (.d (.list ((walkL p0 s0 w0 60).map fr))), some (.d (fr l)), some (.i (m : Nat)), some (.d (optP (crossQ p0 s0 w0 l (min m 60)))), some (.d (optP (crossQ p0 s0 w0 l m))), some (.i (b : Nat)), none, none]) (V := fun _ => dJ K p C8 (.tab Tp.tabs)) 0 ⟨by decide, fun t ht => .inl ⟨rfl, top_nn ht⟩⟩ (iw_r (n := 61) (p_cons e_int a_nil) (by decide)) rfl (fun i b hi hb => ?_) (fun b hb => ?_)
      · have hb1 := hb.1
        refine ⟨_, g_name, .inl ⟨if less (walkP p0 s0 w0 b) (walkP p0 s0 w0 i) = true then i else b, bst_step h0 c0 evv eu hi hb, ?_⟩⟩
        refine s_lessN (ρ' := [some (.d (.list (ns.map PyData.int))), some (.r p), some (.d (vcd p0 p1)), some (.d (vcd s0 s1)), some (.d (vcd w0 w1)), some (.i (n : Nat)), some (.d (.list [vcd (walkP p0 s0 w0 n) (walkP p1 s1 w1 n), vcd (walkV s0 w0 n) (walkV s1 w1 n)])), some (.d (stD (sta1 (walkP p0 s0 w0 n) (walkP p1 s1 w1 n) (walkV s0 w0 n) (walkV s1 w1 n) w0 w1))), some (.i (i : Nat)), none, some (.i 0), some (.d (.list ((walkL p0 s0 w0 60).map fr))), some (.d (fr l)), some (.i (m : Nat)), some (.d (optP (crossQ p0 s0 w0 l (min m 60)))), some (.d (optP (crossQ p0 s0 w0 l m))), some (.i ((if less (walkP p0 s0 w0 b) (walkP p0 s0 w0 i) = true then i else b : Nat) : Int)), none, none]) ⟨.inr rfl, .inr rfl, .inr rfl, .inr rfl, .inr rfl, .inr rfl, .inr rfl, .inr rfl, .inl rfl, .inr rfl, .inr rfl, .inr rfl, .inr rfl, .inr rfl, .inr rfl, .inr rfl, .inr rfl, .inr rfl, .inr rfl, trivial⟩ ?_
        have tl : ∀ {tt : TE}, PL.E K tt [some (.d (.list (ns.map PyData.int))), some (.r p), some (.d (vcd p0 p1)), some (.d (vcd s0 s1)), some (.d (vcd w0 w1)), some (.i (n : Nat)), some (.d (.list [vcd (walkP p0 s0 w0 n) (walkP p1 s1 w1 n), vcd (walkV s0 w0 n) (walkV s1 w1 n)])), some (.d (stD (sta1 (walkP p0 s0 w0 n) (walkP p1 s1 w1 n) (walkV s0 w0 n) (walkV s1 w1 n) w0 w1))), some (.i (i : Nat)), none, some (.i 0), some (.d (.list ((walkL p0 s0 w0 60).map fr))), some (.d (fr l)), some (.i (m : Nat)), some (.d (optP (crossQ p0 s0 w0 l (min m 60)))), some (.d (optP (crossQ p0 s0 w0 l m))), some (.i (b : Nat)), none, none] (dJ K p C8 (.tab Tp.tabs)) (.b (less (walkP p0 s0 w0 b) (walkP p0 s0 w0 i))) (dJ K p C8 (.tab Tp.tabs)) → PL.E K tt [some (.d (.list (ns.map PyData.int))), some (.r p), some (.d (vcd p0 p1)), some (.d (vcd s0 s1)), some (.d (vcd w0 w1)), some (.i (n : Nat)), some (.d (.list [vcd (walkP p0 s0 w0 n) (walkP p1 s1 w1 n), vcd (walkV s0 w0 n) (walkV s1 w1 n)])), some (.d (stD (sta1 (walkP p0 s0 w0 n) (walkP p1 s1 w1 n) (walkV s0 w0 n) (walkV s1 w1 n) w0 w1))), some (.i (i : Nat)), none, some (.i 0), some (.d (.list ((walkL p0 s0 w0 60).map fr))), some (.d (fr l)), some (.i (m : Nat)), some (.d (optP (crossQ p0 s0 w0 l (min m 60)))), some (.d (optP (crossQ p0 s0 w0 l m))), some (.i (b : Nat)), none, none] (dJ K p C8 (.tab Tp.tabs)) (.b (less (walkP p0 s0 w0 b) (walkP p0 s0 w0 i))) (dJ K p C8 (.tab Tp.tabs)) := fun z => z
        by_cases c : less (walkP p0 s0 w0 b) (walkP p0 s0 w0 i) = true
        · rw [if_pos c]
          exact p_asg (e_ifT (t_is (t_B (tl (p_call (T := noT) (R := RLess) (ds := [.d (fr (walkP p0 s0 w0 b)), .d (fr (walkP p0 s0 w0 i))]) (p_cons (e_ixL (j := b) (e_var (i := 11) rfl) (e_var (i := 16) rfl) (walkL_at (by omega))) (p_cons (e_ixL (j := i) (e_var (i := 11) rfl) (e_var (i := 8) rfl) (walkL_at (by omega))) a_nil)) ⟨_, _, rfl, (wk_p h0 (k := b) (by omega)).mono (by decide), (wk_p h0 (k := i) (by omega)).mono (by decide), rfl⟩))) c) (e_var (i := 8) rfl))
        · rw [if_neg c]
          exact p_asg (e_ifF (t_is (t_B (tl (p_call (T := noT) (R := RLess) (ds := [.d (fr (walkP p0 s0 w0 b)), .d (fr (walkP p0 s0 w0 i))]) (p_cons (e_ixL (j := b) (e_var (i := 11) rfl) (e_var (i := 16) rfl) (walkL_at (by omega))) (p_cons (e_ixL (j := i) (e_var (i := 11) rfl) (e_var (i := 8) rfl) (walkL_at (by omega))) a_nil)) ⟨_, _, rfl, (wk_p h0 (k := b) (by omega)).mono (by decide), (wk_p h0 (k := i) (by omega)).mono (by decide), rfl⟩))) (Bool.eq_false_iff.mpr c)) (e_var (i := 16) rfl))
      have gr := top_grows h0.s.nrm h0.w.nrm c0 evv eu
      have hbt := hb.2
      refine q_asg (d := .d (optIP (topF v u))) (e_is (p_call (T := noT) (R := RTop) (ds := [.d (fr s0), .d (fr w0)]) (p_cons (p_ixT (ds := [fr s0, fr s1]) (i := 0) (e_var (i := 3) rfl) (e_var (i := 10) rfl) rfl) (p_cons (p_ixT (ds := [fr w0, fr w1]) (i := 0) (e_var (i := 4) rfl) (e_var (i := 10) rfl) rfl) a_nil)) rt) (optI_p _)) ?_
      refine q_asg (d := .b (isNon (optIP (topF v u)))) (e_is (e_orV (p_gt (i := w0.1) (j := 0) (p_f1 (p_ixT (ds := [fr w0, fr w1]) (i := 0) (e_var (i := 4) rfl) (e_var (i := 10) rfl) rfl)) e_int) fun _ => e_andV (p_eqI (i := w0.1) (j := 0) (p_f1 (p_ixT (ds := [fr w0, fr w1]) (i := 0) (e_var (i := 4) rfl) (e_var (i := 10) rfl) rfl)) e_int) fun _ => p_gt (i := s0.1) (j := 0) (p_f1 (p_ixT (ds := [fr s0, fr s1]) (i := 0) (e_var (i := 3) rfl) (e_var (i := 10) rfl) rfl)) e_int) (by rw [gr])) ?_
      clear gr rt
      generalize topF v u = T at *
      refine s_ne (ρ1 := [some (.d (.list (ns.map PyData.int))), some (.r p), some (.d (vcd p0 p1)), some (.d (vcd s0 s1)), some (.d (vcd w0 w1)), some (.i (n : Nat)), some (.d (.list [vcd (walkP p0 s0 w0 n) (walkP p1 s1 w1 n), vcd (walkV s0 w0 n) (walkV s1 w1 n)])), some (.d (stD (sta1 (walkP p0 s0 w0 n) (walkP p1 s1 w1 n) (walkV s0 w0 n) (walkV s1 w1 n) w0 w1))), none, none, none, none, none, none, none, none, none, none, none]) (J := dJ K p C8 (.tab Tp.tabs)) (s_lessN (ρ' := [some (.d (.list (ns.map PyData.int))), some (.r p), some (.d (vcd p0 p1)), some (.d (vcd s0 s1)), some (.d (vcd w0 w1)), some (.i (n : Nat)), some (.d (.list [vcd (walkP p0 s0 w0 n) (walkP p1 s1 w1 n), vcd (walkV s0 w0 n) (walkV s1 w1 n)])), some (.d (stD (sta1 (walkP p0 s0 w0 n) (walkP p1 s1 w1 n) (walkV s0 w0 n) (walkV s1 w1 n) w0 w1))), none, none, some (.i 0), some (.d (.list ((walkL p0 s0 w0 60).map fr))), some (.d (fr l)), some (.i (m : Nat)), some (.d (optP (crossQ p0 s0 w0 l (min m 60)))), some (.d (optP (crossQ p0 s0 w0 l m))), some (.i (b : Nat)), some (.d (optIP T)), some (.b (isNon (optIP T)))]) ⟨.inr rfl, .inr rfl, .inr rfl, .inr rfl, .inr rfl, .inr rfl, .inr rfl, .inr rfl, .inr rfl, .inr rfl, .inl rfl, .inl rfl, .inl rfl, .inl rfl, .inl rfl, .inl rfl, .inl rfl, .inl rfl, .inl rfl, trivial⟩ ?_) ⟨C8, ok8, rfl, rfl⟩
      refine q_ifF (t_or (p_test (e_neD (x := .bool (isNon (optIP T))) (y := .bool (isNon (optIP T))) (e_isN (x := optIP T) (e_var (i := 17) rfl) e_non) (e_var (i := 18) rfl) rfl rfl)) fun _ => t_is (b := topT b T) ?_ rfl) ?_ s_next
      · cases T with
        | none => exact t_andF (t_is (p_test (e_notN (x := .none) (e_var (i := 17) rfl) e_non)) rfl)
        | some t => exact t_andT (t_is (p_test (e_notN (x := .int t) (e_var (i := 17) rfl) e_non)) rfl) (t_and (t_is (p_test (e_neD (x := .int t) (y := .int (b : Nat)) (e_var (i := 17) rfl) (e_var (i := 16) rfl) rfl rfl)) (by rw [eqv_ii])) fun _ => t_or (p_test (p_lt (i := (b : Nat)) (j := 60) (e_var (i := 16) rfl) e_int)) fun _ => p_test (p_le (i := t) (j := 60) (e_var (i := 17) rfl) e_int))
      · rw [eqv_bb]
        cases T with
        | none => rfl
        | some t =>
          have h3 := hbt t rfl
          show (!true || (!decide (t = (b : Nat)) && (decide ((b : Int) < 60) || decide (t ≤ 60)))) = false
          by_cases z : t = (b : Nat)
          · rw [decide_eq_true z]
            rfl
          · rw [decide_eq_false z, decide_eq_false (show ¬ (b : Int) < 60 by omega), decide_eq_false (show ¬ t ≤ 60 by omega)]
            rfl
    · refine ⟨[some (.d (.list (ns.map PyData.int))), some (.r p), some (.d (vcd p0 p1)), some (.d (vcd s0 s1)), some (.d (vcd w0 w1)), some (.i (n : Nat)), some (.d (.list [vcd (walkP p0 s0 w0 n) (walkP p1 s1 w1 n), vcd (walkV s0 w0 n) (walkV s1 w1 n)])), some (.d (stD (sta1 (walkP p0 s0 w0 n) (walkP p1 s1 w1 n) (walkV s0 w0 n) (walkV s1 w1 n) w0 w1))), none, none, some (.i 1), none, none, none, none, none, none, none, none], g_name, .inl ?_⟩
      refine q_asg (d := .d (.list ((walkL p1 s1 w1 60).map fr))) (p_call (T := noT) (R := RWalk) (ds := [.d (fr p1), .d (fr s1), .d (fr w1), .i ((60 : Nat) : Int)]) (p_cons (p_ixT (ds := [fr p0, fr p1]) (i := 1) (e_var (i := 2) rfl) (e_var (i := 10) rfl) rfl) (p_cons (p_ixT (ds := [fr s0, fr s1]) (i := 1) (e_var (i := 3) rfl) (e_var (i := 10) rfl) rfl) (p_cons (p_ixT (ds := [fr w0, fr w1]) (i := 1) (e_var (i := 4) rfl) (e_var (i := 10) rfl) rfl) (p_cons e_int a_nil)))) ⟨p1, s1, w1, 60, rfl, h1, by decide, rfl⟩) ?_
      refine s_seqX (α := F × DS) (fun z => DOk z.2 ∧ PL.Ok 50 z.1) (fun z => [some (.d (.list (ns.map PyData.int))), some (.r p), some (.d (vcd p0 p1)), some (.d (vcd s0 s1)), some (.d (vcd w0 w1)), some (.i (n : Nat)), some (.d (.list [vcd (walkP p0 s0 w0 n) (walkP p1 s1 w1 n), vcd (walkV s0 w0 n) (walkV s1 w1 n)])), some (.d (stD (sta1 (walkP p0 s0 w0 n) (walkP p1 s1 w1 n) (walkV s0 w0 n) (walkV s1 w1 n) w0 w1))), none, none, some (.i 1), some (.d (.list ((walkL p1 s1 w1 60).map fr))), some (.d (fr z.1)), none, none, none, none, none, none]) (fun z => dJ K p z.2 (.tab Tp.tabs)) ?_ fun z hz => ?_
      · obtain ⟨oc, t1, t2⟩ := take_ok (C := C6) (m := 3) ok6 (by decide)
        by_cases c : (take C6 3).1 = 1
        · obtain ⟨od, j1, j2⟩ := take_ok (C := (take C6 3).2) (m := 30) oc (by decide)
          obtain ⟨j, hj⟩ : ∃ j : Nat, (take (take C6 3).2 30).1 = (j : Nat) := ⟨(take (take C6 3).2 30).1.toNat, by omega⟩
          refine ⟨(walkP p1 s1 w1 j, (take (take C6 3).2 30).2), ⟨od, (wk_p h1 (k := j) (by omega)).mono (by decide)⟩, s_asg (e_ifT (t_is (t_test (e_eqI (i := (take C6 3).1) (j := 1) (e_draw (R := RTake) (ds := [.i 3]) (C := C6) (a_cons (e_var (i := 1) rfl) (a_cons e_int a_nil)) ⟨_, rfl, ok6, by decide, sz_le (m := 7) (by decide) (by decide), rfl, rfl⟩ nf) e_int)) (decide_eq_true c)) (e_ixL (j := j) (e_var (i := 11) rfl) (e_is (e_draw (R := RTake) (ds := [.i 30]) (C := (take C6 3).2) (a_cons (e_var (i := 1) rfl) (a_cons e_int a_nil)) ⟨_, rfl, oc, by decide, sz_le (m := 7) (by decide) (by decide), rfl, rfl⟩ nf) (by rw [hj])) (walkL_at (by omega))))⟩
        · obtain ⟨od, j1⟩ := part_sm (C := (take C6 3).2) (m := 6) oc (by decide)
          have o6 : PL.Ok 15 (partM (take C6 3).2 ((6 : Nat) : Int)).1 := sm_ok (j1.mono (E := 2520) (by decide) (Nat.le_refl _)) (by decide) (by decide)
          have o7 : PL.Ok 50 (lplus p1 (partM (take C6 3).2 ((6 : Nat) : Int)).1) := by
            rw [lplus_eq h1.p.nrm o6.nrm]
            exact (ok_plus (wk_p h1 (k := 0) (by decide)) o6).mono (by decide)
          exact ⟨(lplus p1 (partM (take C6 3).2 ((6 : Nat) : Int)).1, (partM (take C6 3).2 ((6 : Nat) : Int)).2), ⟨od, o7⟩, s_asg (e_ifF (t_is (t_test (e_eqI (i := (take C6 3).1) (j := 1) (e_draw (R := RTake) (ds := [.i 3]) (C := C6) (a_cons (e_var (i := 1) rfl) (a_cons e_int a_nil)) ⟨_, rfl, ok6, by decide, sz_le (m := 7) (by decide) (by decide), rfl, rfl⟩ nf) e_int)) (decide_eq_false c)) (e_call (T := noT) (R := RPlus lplus) (ds := [.d (fr p1), .d (fr (partM (take C6 3).2 ((6 : Nat) : Int)).1)]) (a_cons (p_ixT (ds := [fr p0, fr p1]) (i := 1) (e_var (i := 2) rfl) (e_var (i := 10) rfl) rfl) (a_cons (e_draw (R := RPart) (ds := [.i ((6 : Nat) : Int)]) (C := (take C6 3).2) (a_cons (e_var (i := 1) rfl) (a_cons e_int a_nil)) ⟨_, rfl, oc, by decide, sz_le (m := 7) (by decide) (by decide), rfl, rfl⟩ nf) a_nil)) (RPlus.mk k1.1 o6)))⟩
      obtain ⟨l, C7⟩ := z
      obtain ⟨ok7, hl7⟩ := hz
      replace ok7 : DOk C7 := ok7
      replace hl7 : PL.Ok 50 l := hl7
      dsimp only
      refine s_seqX (α := Nat × DS) (fun z => DOk z.2 ∧ 1 ≤ z.1 ∧ z.1 ≤ 1000000) (fun z => [some (.d (.list (ns.map PyData.int))), some (.r p), some (.d (vcd p0 p1)), some (.d (vcd s0 s1)), some (.d (vcd w0 w1)), some (.i (n : Nat)), some (.d (.list [vcd (walkP p0 s0 w0 n) (walkP p1 s1 w1 n), vcd (walkV s0 w0 n) (walkV s1 w1 n)])), some (.d (stD (sta1 (walkP p0 s0 w0 n) (walkP p1 s1 w1 n) (walkV s0 w0 n) (walkV s1 w1 n) w0 w1))), none, none, some (.i 1), some (.d (.list ((walkL p1 s1 w1 60).map fr))), some (.d (fr l)), some (.i (z.1 : Nat)), none, none, none, none, none]) (fun z => dJ K p z.2 (.tab Tp.tabs)) ?_ fun z hz => ?_
      · obtain ⟨oc, t1, t2⟩ := take_ok (C := C7) (m := 60) ok7 (by decide)
        obtain ⟨od, r1, r2⟩ := take_ok (C := (take C7 60).2) (m := 3) oc (by decide)
        obtain ⟨x, hx⟩ : ∃ x : Nat, (take C7 60).1 = (x : Nat) := ⟨(take C7 60).1.toNat, by omega⟩
        obtain ⟨j, hj⟩ : ∃ j : Nat, (take (take C7 60).2 3).1 = (j : Nat) := ⟨(take (take C7 60).2 3).1.toNat, by omega⟩
        have j3 : j = 0 ∨ j = 1 ∨ j = 2 := by omega
        rcases j3 with rfl | rfl | rfl
        · exact ⟨(60, (take (take C7 60).2 3).2), ⟨od, show 1 ≤ 60 by decide, show 60 ≤ 1000000 by decide⟩, s_asg (e_ixT (j := 0) (e_tup (ρ := [some (.d (.list (ns.map PyData.int))), some (.r p), some (.d (vcd p0 p1)), some (.d (vcd s0 s1)), some (.d (vcd w0 w1)), some (.i (n : Nat)), some (.d (.list [vcd (walkP p0 s0 w0 n) (walkP p1 s1 w1 n), vcd (walkV s0 w0 n) (walkV s1 w1 n)])), some (.d (stD (sta1 (walkP p0 s0 w0 n) (walkP p1 s1 w1 n) (walkV s0 w0 n) (walkV s1 w1 n) w0 w1))), none, none, some (.i 1), some (.d (.list ((walkL p1 s1 w1 60).map fr))), some (.d (fr l)), none, none, none, none, none, none]) (I := dJ K p C7 (.tab Tp.tabs)) (ds := [.i 60, .i ((1 + x : Nat) : Int), .i 1000000]) (a_cons e_int (a_cons (e_is (e_add (i := 1) (j := (take C7 60).1) e_int (e_draw (R := RTake) (ds := [.i 60]) (C := C7) (a_cons (e_var (i := 1) rfl) (a_cons e_int a_nil)) ⟨_, rfl, ok7, by decide, sz_le (m := 7) (by decide) (by decide), rfl, rfl⟩ nf)) (by rw [hx]; rfl)) (a_cons e_int a_nil))) (.cons (.cons (.cons .nil))) (show 3 ≤ 100000 by decide)) (e_is (e_draw (R := RTake) (ds := [.i 3]) (C := (take C7 60).2) (a_cons (e_var (i := 1) rfl) (a_cons e_int a_nil)) ⟨_, rfl, oc, by decide, sz_le (m := 7) (by decide) (by decide), rfl, rfl⟩ nf) (by rw [hj])) rfl)⟩
        · exact ⟨(1 + x, (take (take C7 60).2 3).2), ⟨od, by dsimp only; omega, by dsimp only; omega⟩, s_asg (e_ixT (j := 1) (e_tup (ρ := [some (.d (.list (ns.map PyData.int))), some (.r p), some (.d (vcd p0 p1)), some (.d (vcd s0 s1)), some (.d (vcd w0 w1)), some (.i (n : Nat)), some (.d (.list [vcd (walkP p0 s0 w0 n) (walkP p1 s1 w1 n), vcd (walkV s0 w0 n) (walkV s1 w1 n)])), some (.d (stD (sta1 (walkP p0 s0 w0 n) (walkP p1 s1 w1 n) (walkV s0 w0 n) (walkV s1 w1 n) w0 w1))), none, none, some (.i 1), some (.d (.list ((walkL p1 s1 w1 60).map fr))), some (.d (fr l)), none, none, none, none, none, none]) (I := dJ K p C7 (.tab Tp.tabs)) (ds := [.i 60, .i ((1 + x : Nat) : Int), .i 1000000]) (a_cons e_int (a_cons (e_is (e_add (i := 1) (j := (take C7 60).1) e_int (e_draw (R := RTake) (ds := [.i 60]) (C := C7) (a_cons (e_var (i := 1) rfl) (a_cons e_int a_nil)) ⟨_, rfl, ok7, by decide, sz_le (m := 7) (by decide) (by decide), rfl, rfl⟩ nf)) (by rw [hx]; rfl)) (a_cons e_int a_nil))) (.cons (.cons (.cons .nil))) (show 3 ≤ 100000 by decide)) (e_is (e_draw (R := RTake) (ds := [.i 3]) (C := (take C7 60).2) (a_cons (e_var (i := 1) rfl) (a_cons e_int a_nil)) ⟨_, rfl, oc, by decide, sz_le (m := 7) (by decide) (by decide), rfl, rfl⟩ nf) (by rw [hj])) rfl)⟩
        · exact ⟨(1000000, (take (take C7 60).2 3).2), ⟨od, show 1 ≤ 1000000 by decide, show 1000000 ≤ 1000000 by decide⟩, s_asg (e_ixT (j := 2) (e_tup (ρ := [some (.d (.list (ns.map PyData.int))), some (.r p), some (.d (vcd p0 p1)), some (.d (vcd s0 s1)), some (.d (vcd w0 w1)), some (.i (n : Nat)), some (.d (.list [vcd (walkP p0 s0 w0 n) (walkP p1 s1 w1 n), vcd (walkV s0 w0 n) (walkV s1 w1 n)])), some (.d (stD (sta1 (walkP p0 s0 w0 n) (walkP p1 s1 w1 n) (walkV s0 w0 n) (walkV s1 w1 n) w0 w1))), none, none, some (.i 1), some (.d (.list ((walkL p1 s1 w1 60).map fr))), some (.d (fr l)), none, none, none, none, none, none]) (I := dJ K p C7 (.tab Tp.tabs)) (ds := [.i 60, .i ((1 + x : Nat) : Int), .i 1000000]) (a_cons e_int (a_cons (e_is (e_add (i := 1) (j := (take C7 60).1) e_int (e_draw (R := RTake) (ds := [.i 60]) (C := C7) (a_cons (e_var (i := 1) rfl) (a_cons e_int a_nil)) ⟨_, rfl, ok7, by decide, sz_le (m := 7) (by decide) (by decide), rfl, rfl⟩ nf)) (by rw [hx]; rfl)) (a_cons e_int a_nil))) (.cons (.cons (.cons .nil))) (show 3 ≤ 100000 by decide)) (e_is (e_draw (R := RTake) (ds := [.i 3]) (C := (take C7 60).2) (a_cons (e_var (i := 1) rfl) (a_cons e_int a_nil)) ⟨_, rfl, oc, by decide, sz_le (m := 7) (by decide) (by decide), rfl, rfl⟩ nf) (by rw [hj])) rfl)⟩
      obtain ⟨m, C8⟩ := z
      obtain ⟨ok8, m1, m2⟩ := hz
      replace ok8 : DOk C8 := ok8
      replace m1 : 1 ≤ m := m1
      replace m2 : m ≤ 1000000 := m2
      dsimp only
      have tk : ((walkL p1 s1 w1 60).map fr).take (m + 1) = (walkL p1 s1 w1 (min m 60)).map fr := by
        by_cases z : m ≤ 60
        · rw [Nat.min_eq_left z]
          exact walkL_take p1 s1 w1 z
        · rw [Nat.min_eq_right (by omega)]
          exact walkL_take2 p1 s1 w1 (by omega)
      refine q_asg (d := .d (optP (crossQ p1 s1 w1 l (min m 60)))) (e_is (p_call (T := noT) (R := RLCross) (ds := [.d (.list ((walkL p1 s1 w1 (min m 60)).map fr)), .d (fr l)]) (d := optN (crossQ p1 s1 w1 l (min m 60))) (p_cons (e_is (e_l2d (e_sliceTo (j := m + 1) (ds := (walkL p1 s1 w1 60).map fr) (e_var (i := 11) rfl) (e_is (p_add (i := (m : Nat)) (j := 1) (e_var (i := 13) rfl) e_int) rfl))) (by rw [tk])) (p_cons (e_var (i := 12) rfl) a_nil)) ⟨p1, s1, w1, l, min m 60, rfl, h1, hl7, by omega, by omega, rfl⟩) (optN_p _)) ?_
      refine q_asg (d := .d (optP (crossQ p1 s1 w1 l m))) (e_is (p_call (T := noT) (R := RToldFl) (ds := [.i 1, .d (fr p1), .d (fr s1), .d (fr w1), .d (fr l), .i (m : Nat)]) (d := optN (crossQ p1 s1 w1 l m)) (p_cons e_int (p_cons (p_ixT (ds := [fr p0, fr p1]) (i := 1) (e_var (i := 2) rfl) (e_var (i := 10) rfl) rfl) (p_cons (p_ixT (ds := [fr s0, fr s1]) (i := 1) (e_var (i := 3) rfl) (e_var (i := 10) rfl) rfl) (p_cons (p_ixT (ds := [fr w0, fr w1]) (i := 1) (e_var (i := 4) rfl) (e_var (i := 10) rfl) rfl) (p_cons (e_var (i := 12) rfl) (p_cons (e_var (i := 13) rfl) a_nil)))))) (.inr ⟨p1, s1, w1, l, (m : Nat), rfl, k1.1, k1.2.1, k1.2.2, hl7, .inl ⟨by omega, by omega, by rw [Int.toNat_natCast]⟩⟩)) (optN_p _)) ?_
      have cmp : crossQ p1 s1 w1 l m = crossQ p1 s1 w1 l (min m 60) ∨ (crossQ p1 s1 w1 l (min m 60) = none ∧ ∃ r : Nat, crossQ p1 s1 w1 l m = some r ∧ 60 < r ∧ 60 < m) := by
        by_cases z : m ≤ 60
        · exact .inl (by rw [Nat.min_eq_left z])
        · obtain ⟨a_, v_, u_, eQ, _⟩ := crossQ_at h1 hl7
          rw [eQ, eQ]
          rcases crossT_more (a := a_) (v := v_) (u := u_) (show min m 60 ≤ m from Nat.min_le_left ..) with e | ⟨e, r, e2, hr⟩
          · exact .inl e
          · exact .inr ⟨e, r, e2, by omega, by omega⟩
      refine s_seq (ρ1 := [some (.d (.list (ns.map PyData.int))), some (.r p), some (.d (vcd p0 p1)), some (.d (vcd s0 s1)), some (.d (vcd w0 w1)), some (.i (n : Nat)), some (.d (.list [vcd (walkP p0 s0 w0 n) (walkP p1 s1 w1 n), vcd (walkV s0 w0 n) (walkV s1 w1 n)])), some (.d (stD (sta1 (walkP p0 s0 w0 n) (walkP p1 s1 w1 n) (walkV s0 w0 n) (walkV s1 w1 n) w0 w1))), none, none, some (.i 1), some (.d (.list ((walkL p1 s1 w1 60).map fr))), some (.d (fr l)), some (.i (m : Nat)), some (.d (optP (crossQ p1 s1 w1 l (min m 60)))), some (.d (optP (crossQ p1 s1 w1 l m))), none, none, none]) (J := dJ K p C8 (.tab Tp.tabs)) ?_ ?_
      · rcases cmp with e | ⟨e, r, e2, hr, hm⟩
        · rw [e]
          exact q_ifF (t_andF (t_is (p_test (e_neD (x := optP (crossQ p1 s1 w1 l (min m 60))) (y := optP (crossQ p1 s1 w1 l (min m 60))) (e_var (i := 15) rfl) (e_var (i := 14) rfl) (sh_opt _) (sh_opt _))) (by rw [optP_eqv, decide_eq_true rfl]; rfl))) rfl s_next
        · rw [e, e2]
          exact q_ifF (t_and (p_test (e_neD (x := optP (some r)) (y := optP none) (e_var (i := 15) rfl) (e_var (i := 14) rfl) (sh_opt _) (sh_opt _))) fun _ => t_or (p_test (p_le (i := (m : Nat)) (j := 60) (e_var (i := 13) rfl) e_int)) fun _ => t_or (p_test (e_notN (x := .none) (e_var (i := 14) rfl) e_non)) fun _ => t_and (p_test (e_notN (x := .int (r : Nat)) (e_var (i := 15) rfl) e_non)) fun _ => p_test (p_le (i := (r : Nat)) (j := 60) (e_var (i := 15) rfl) e_int)) (by rw [decide_eq_false (show ¬ ((m : Nat) : Int) ≤ 60 by omega), decide_eq_false (show ¬ ((r : Nat) : Int) ≤ 60 by omega)]; show (_ && (false || (false || (true && false)))) = false; rw [show (false || (false || (true && false))) = false from rfl, Bool.and_false]) s_next
      clear cmp tk
      have hs2 : ∀ t ∈ [s1, w1], PL.Ok 110 t := fun t ht => by
        rcases List.mem_cons.mp ht with rfl | ht
        · exact k1.2.1
        · rw [List.mem_singleton.mp ht]
          exact k1.2.2
      have c0 := den_p hs2
      have evv := num_c hs2 (t := s1) (by simp)
      have eu := num_c hs2 (t := w1) (by simp)
      have rt : RTop [.d (fr s1), .d (fr w1)] (optI (topF (s1.1 * (((denM [s1, w1] : Nat) : Int) / s1.2)) (w1.1 * (((denM [s1, w1] : Nat) : Int) / w1.2)))) := ⟨s1, w1, rfl, k1.2.1, k1.2.2, rfl⟩
      generalize s1.1 * (((denM [s1, w1] : Nat) : Int) / s1.2) = v at *
      generalize w1.1 * (((denM [s1, w1] : Nat) : Int) / w1.2) = u at *
      generalize denM [s1, w1] = c at *
      refine q_asg (d := .i ((0 : Nat) : Int)) e_int ?_
      refine s_loop (α := Nat) (W := fun i b => Bst v u i b) (P := fun b => [some (.d (.list (ns.map PyData.int))), some (.r p), some (.d (vcd p0 p1)), some (.d (vcd s0 s1)), some (.d (vcd w0 w1)), some (.i (n : Nat)), some (.d (.list [vcd (walkP p0 s0 w0 n) (walkP p1 s1 w1 n), vcd (walkV s0 w0 n) (walkV s1 w1 n)])), some (.d (stD (sta1 (walkP p0 s0 w0 n) (walkP p1 s1 w1 n) (walkV s0 w0 n) (walkV s1 w1 n) w0 w1))), none, none, some (.i 1), some (.d (.list ((walkL p1 s1 w1 60).map fr))), some (.d (fr l)), some (.i (m : Nat)), some (.d (optP (crossQ p1 s1 w1 l (min m 60)))), some (.d (optP (crossQ p1 s1 w1 l m))), some (.i (b : Nat)), none, none]) (V := fun _ => dJ K p C8 (.tab Tp.tabs)) 0 ⟨by decide, fun t ht => .inl ⟨rfl, top_nn ht⟩⟩ (iw_r (n := 61) (p_cons e_int a_nil) (by decide)) rfl (fun i b hi hb => ?_) (fun b hb => ?_)
      · have hb1 := hb.1
        refine ⟨_, g_name, .inl ⟨if less (walkP p1 s1 w1 b) (walkP p1 s1 w1 i) = true then i else b, bst_step h1 c0 evv eu hi hb, ?_⟩⟩
        refine s_lessN (ρ' := [some (.d (.list (ns.map PyData.int))), some (.r p), some (.d (vcd p0 p1)), some (.d (vcd s0 s1)), some (.d (vcd w0 w1)), some (.i (n : Nat)), some (.d (.list [vcd (walkP p0 s0 w0 n) (walkP p1 s1 w1 n), vcd (walkV s0 w0 n) (walkV s1 w1 n)])), some (.d (stD (sta1 (walkP p0 s0 w0 n) (walkP p1 s1 w1 n) (walkV s0 w0 n) (walkV s1 w1 n) w0 w1))), some (.i (i : Nat)), none, some (.i 1), some (.d (.list ((walkL p1 s1 w1 60).map fr))), some (.d (fr l)), some (.i (m : Nat)), some (.d (optP (crossQ p1 s1 w1 l (min m 60)))), some (.d (optP (crossQ p1 s1 w1 l m))), some (.i ((if less (walkP p1 s1 w1 b) (walkP p1 s1 w1 i) = true then i else b : Nat) : Int)), none, none]) ⟨.inr rfl, .inr rfl, .inr rfl, .inr rfl, .inr rfl, .inr rfl, .inr rfl, .inr rfl, .inl rfl, .inr rfl, .inr rfl, .inr rfl, .inr rfl, .inr rfl, .inr rfl, .inr rfl, .inr rfl, .inr rfl, .inr rfl, trivial⟩ ?_
        have tl : ∀ {tt : TE}, PL.E K tt [some (.d (.list (ns.map PyData.int))), some (.r p), some (.d (vcd p0 p1)), some (.d (vcd s0 s1)), some (.d (vcd w0 w1)), some (.i (n : Nat)), some (.d (.list [vcd (walkP p0 s0 w0 n) (walkP p1 s1 w1 n), vcd (walkV s0 w0 n) (walkV s1 w1 n)])), some (.d (stD (sta1 (walkP p0 s0 w0 n) (walkP p1 s1 w1 n) (walkV s0 w0 n) (walkV s1 w1 n) w0 w1))), some (.i (i : Nat)), none, some (.i 1), some (.d (.list ((walkL p1 s1 w1 60).map fr))), some (.d (fr l)), some (.i (m : Nat)), some (.d (optP (crossQ p1 s1 w1 l (min m 60)))), some (.d (optP (crossQ p1 s1 w1 l m))), some (.i (b : Nat)), none, none] (dJ K p C8 (.tab Tp.tabs)) (.b (less (walkP p1 s1 w1 b) (walkP p1 s1 w1 i))) (dJ K p C8 (.tab Tp.tabs)) → PL.E K tt [some (.d (.list (ns.map PyData.int))), some (.r p), some (.d (vcd p0 p1)), some (.d (vcd s0 s1)), some (.d (vcd w0 w1)), some (.i (n : Nat)), some (.d (.list [vcd (walkP p0 s0 w0 n) (walkP p1 s1 w1 n), vcd (walkV s0 w0 n) (walkV s1 w1 n)])), some (.d (stD (sta1 (walkP p0 s0 w0 n) (walkP p1 s1 w1 n) (walkV s0 w0 n) (walkV s1 w1 n) w0 w1))), some (.i (i : Nat)), none, some (.i 1), some (.d (.list ((walkL p1 s1 w1 60).map fr))), some (.d (fr l)), some (.i (m : Nat)), some (.d (optP (crossQ p1 s1 w1 l (min m 60)))), some (.d (optP (crossQ p1 s1 w1 l m))), some (.i (b : Nat)), none, none] (dJ K p C8 (.tab Tp.tabs)) (.b (less (walkP p1 s1 w1 b) (walkP p1 s1 w1 i))) (dJ K p C8 (.tab Tp.tabs)) := fun z => z
        by_cases c : less (walkP p1 s1 w1 b) (walkP p1 s1 w1 i) = true
        · rw [if_pos c]
          exact p_asg (e_ifT (t_is (t_B (tl (p_call (T := noT) (R := RLess) (ds := [.d (fr (walkP p1 s1 w1 b)), .d (fr (walkP p1 s1 w1 i))]) (p_cons (e_ixL (j := b) (e_var (i := 11) rfl) (e_var (i := 16) rfl) (walkL_at (by omega))) (p_cons (e_ixL (j := i) (e_var (i := 11) rfl) (e_var (i := 8) rfl) (walkL_at (by omega))) a_nil)) ⟨_, _, rfl, (wk_p h1 (k := b) (by omega)).mono (by decide), (wk_p h1 (k := i) (by omega)).mono (by decide), rfl⟩))) c) (e_var (i := 8) rfl))
        · rw [if_neg c]
          exact p_asg (e_ifF (t_is (t_B (tl (p_call (T := noT) (R := RLess) (ds := [.d (fr (walkP p1 s1 w1 b)), .d (fr (walkP p1 s1 w1 i))]) (p_cons (e_ixL (j := b) (e_var (i := 11) rfl) (e_var (i := 16) rfl) (walkL_at (by omega))) (p_cons (e_ixL (j := i) (e_var (i := 11) rfl) (e_var (i := 8) rfl) (walkL_at (by omega))) a_nil)) ⟨_, _, rfl, (wk_p h1 (k := b) (by omega)).mono (by decide), (wk_p h1 (k := i) (by omega)).mono (by decide), rfl⟩))) (Bool.eq_false_iff.mpr c)) (e_var (i := 16) rfl))
      have gr := top_grows h1.s.nrm h1.w.nrm c0 evv eu
      have hbt := hb.2
      refine q_asg (d := .d (optIP (topF v u))) (e_is (p_call (T := noT) (R := RTop) (ds := [.d (fr s1), .d (fr w1)]) (p_cons (p_ixT (ds := [fr s0, fr s1]) (i := 1) (e_var (i := 3) rfl) (e_var (i := 10) rfl) rfl) (p_cons (p_ixT (ds := [fr w0, fr w1]) (i := 1) (e_var (i := 4) rfl) (e_var (i := 10) rfl) rfl) a_nil)) rt) (optI_p _)) ?_
      refine q_asg (d := .b (isNon (optIP (topF v u)))) (e_is (e_orV (p_gt (i := w1.1) (j := 0) (p_f1 (p_ixT (ds := [fr w0, fr w1]) (i := 1) (e_var (i := 4) rfl) (e_var (i := 10) rfl) rfl)) e_int) fun _ => e_andV (p_eqI (i := w1.1) (j := 0) (p_f1 (p_ixT (ds := [fr w0, fr w1]) (i := 1) (e_var (i := 4) rfl) (e_var (i := 10) rfl) rfl)) e_int) fun _ => p_gt (i := s1.1) (j := 0) (p_f1 (p_ixT (ds := [fr s0, fr s1]) (i := 1) (e_var (i := 3) rfl) (e_var (i := 10) rfl) rfl)) e_int) (by rw [gr])) ?_
      clear gr rt
      generalize topF v u = T at *
      refine s_ne (ρ1 := [some (.d (.list (ns.map PyData.int))), some (.r p), some (.d (vcd p0 p1)), some (.d (vcd s0 s1)), some (.d (vcd w0 w1)), some (.i (n : Nat)), some (.d (.list [vcd (walkP p0 s0 w0 n) (walkP p1 s1 w1 n), vcd (walkV s0 w0 n) (walkV s1 w1 n)])), some (.d (stD (sta1 (walkP p0 s0 w0 n) (walkP p1 s1 w1 n) (walkV s0 w0 n) (walkV s1 w1 n) w0 w1))), none, none, none, none, none, none, none, none, none, none, none]) (J := dJ K p C8 (.tab Tp.tabs)) (s_lessN (ρ' := [some (.d (.list (ns.map PyData.int))), some (.r p), some (.d (vcd p0 p1)), some (.d (vcd s0 s1)), some (.d (vcd w0 w1)), some (.i (n : Nat)), some (.d (.list [vcd (walkP p0 s0 w0 n) (walkP p1 s1 w1 n), vcd (walkV s0 w0 n) (walkV s1 w1 n)])), some (.d (stD (sta1 (walkP p0 s0 w0 n) (walkP p1 s1 w1 n) (walkV s0 w0 n) (walkV s1 w1 n) w0 w1))), none, none, some (.i 1), some (.d (.list ((walkL p1 s1 w1 60).map fr))), some (.d (fr l)), some (.i (m : Nat)), some (.d (optP (crossQ p1 s1 w1 l (min m 60)))), some (.d (optP (crossQ p1 s1 w1 l m))), some (.i (b : Nat)), some (.d (optIP T)), some (.b (isNon (optIP T)))]) ⟨.inr rfl, .inr rfl, .inr rfl, .inr rfl, .inr rfl, .inr rfl, .inr rfl, .inr rfl, .inr rfl, .inr rfl, .inl rfl, .inl rfl, .inl rfl, .inl rfl, .inl rfl, .inl rfl, .inl rfl, .inl rfl, .inl rfl, trivial⟩ ?_) ⟨C8, ok8, rfl, rfl⟩
      refine q_ifF (t_or (p_test (e_neD (x := .bool (isNon (optIP T))) (y := .bool (isNon (optIP T))) (e_isN (x := optIP T) (e_var (i := 17) rfl) e_non) (e_var (i := 18) rfl) rfl rfl)) fun _ => t_is (b := topT b T) ?_ rfl) ?_ s_next
      · cases T with
        | none => exact t_andF (t_is (p_test (e_notN (x := .none) (e_var (i := 17) rfl) e_non)) rfl)
        | some t => exact t_andT (t_is (p_test (e_notN (x := .int t) (e_var (i := 17) rfl) e_non)) rfl) (t_and (t_is (p_test (e_neD (x := .int t) (y := .int (b : Nat)) (e_var (i := 17) rfl) (e_var (i := 16) rfl) rfl rfl)) (by rw [eqv_ii])) fun _ => t_or (p_test (p_lt (i := (b : Nat)) (j := 60) (e_var (i := 16) rfl) e_int)) fun _ => p_test (p_le (i := t) (j := 60) (e_var (i := 17) rfl) e_int))
      · rw [eqv_bb]
        cases T with
        | none => rfl
        | some t =>
          have h3 := hbt t rfl
          show (!true || (!decide (t = (b : Nat)) && (decide ((b : Int) < 60) || decide (t ≤ 60)))) = false
          by_cases z : t = (b : Nat)
          · rw [decide_eq_true z]
            rfl
          · rw [decide_eq_false z, decide_eq_false (show ¬ (b : Int) < 60 by omega), decide_eq_false (show ¬ t ≤ 60 by omega)]
            rfl
  refine q_skip (t_or (p_test (e_neD (x := .str "tick") (y := .str "tick") (p_call (T := noT) (R := RToldFl) (ds := [.i 0, .d (vcd p0 p1), .d (vcd s0 s1), .d (vcd w0 w1), .i 0, .i (0 - 1)]) (d := .d (.str "tick")) (p_cons e_int (p_cons (e_var (i := 2) rfl) (p_cons (e_var (i := 3) rfl) (p_cons (e_var (i := 4) rfl) (p_cons e_int (p_cons (p_sub e_int e_int) a_nil)))))) (.inl ⟨p0, p1, s0, s1, w0, w1, 0, (0 - 1), rfl, (k0.1.mono (by decide)), (k1.1.mono (by decide)), k0.2.1, k1.2.1, k0.2.2, k1.2.2, .inr ⟨.inl (by omega), rfl⟩⟩)) e_str sh_tick sh_tick)) fun _ => p_test (e_neD (x := .str "tick") (y := .str "tick") (p_call (T := noT) (R := RToldFl) (ds := [.i 0, .d (vcd p0 p1), .d (vcd s0 s1), .d (vcd w0 w1), .i 0, .i 1000001]) (d := .d (.str "tick")) (p_cons e_int (p_cons (e_var (i := 2) rfl) (p_cons (e_var (i := 3) rfl) (p_cons (e_var (i := 4) rfl) (p_cons e_int (p_cons e_int a_nil)))))) (.inl ⟨p0, p1, s0, s1, w0, w1, 0, 1000001, rfl, (k0.1.mono (by decide)), (k1.1.mono (by decide)), k0.2.1, k1.2.1, k0.2.2, k1.2.2, .inr ⟨.inr (by omega), rfl⟩⟩)) e_str sh_tick sh_tick)) (by rw [eqv_tick]; rfl) ?_
  refine s_rtT (J := dJ K p C6 (.tab Tp.tabs)) (p_ret (e_is (e_andV (p_eqD (x := .str "tick") (y := .str "tick") (p_call (T := noT) (R := RToldFl) (ds := [.i 1, .d (fr p0), .d (fr s0), .d (fr w0), .d (fr p1), .i 0]) (d := .d (.str "tick")) (p_cons e_int (p_cons (p_ixT (ds := [fr p0, fr p1]) (i := 0) (e_var (i := 2) rfl) e_int rfl) (p_cons (p_ixT (ds := [fr s0, fr s1]) (i := 0) (e_var (i := 3) rfl) e_int rfl) (p_cons (p_ixT (ds := [fr w0, fr w1]) (i := 0) (e_var (i := 4) rfl) e_int rfl) (p_cons (p_ixT (ds := [fr p0, fr p1]) (i := 1) (e_var (i := 2) rfl) e_int rfl) (p_cons e_int a_nil)))))) (.inr ⟨p0, s0, w0, p1, 0, rfl, k0.1, k0.2.1, k0.2.2, k1.1, .inr ⟨.inl (by omega), rfl⟩⟩)) e_str sh_tick sh_tick) fun _ => p_eqD (x := .str "tick") (y := .str "tick") (p_call (T := noT) (R := RToldFl) (ds := [.i 1, .d (fr p0), .d (fr s0), .d (fr w0), .d (fr p1), .i 1000001]) (d := .d (.str "tick")) (p_cons e_int (p_cons (p_ixT (ds := [fr p0, fr p1]) (i := 0) (e_var (i := 2) rfl) e_int rfl) (p_cons (p_ixT (ds := [fr s0, fr s1]) (i := 0) (e_var (i := 3) rfl) e_int rfl) (p_cons (p_ixT (ds := [fr w0, fr w1]) (i := 0) (e_var (i := 4) rfl) e_int rfl) (p_cons (p_ixT (ds := [fr p0, fr p1]) (i := 1) (e_var (i := 2) rfl) e_int rfl) (p_cons e_int a_nil)))))) (.inr ⟨p0, s0, w0, p1, 1000001, rfl, k0.1, k0.2.1, k0.2.2, k1.1, .inr ⟨.inr (by omega), rfl⟩⟩)) e_str sh_tick sh_tick) (by rw [eqv_tick]; rfl)))
end
theorem all_mk {w : World} {K : PySem.W.Frag} {h : Heap} {mg : Str → Option Value} {fa : Addr} {qq : Program} (X : K.In h) (G : h.Ns mainGlobals mg) (hfa : mg "law" = some (.ref fa)) (htab : ∀ (y : Str) (c P : Addr), ((PyProof.Rows.recsOf qq).any fun e => e.name == y) = true → PySem.W.tabIn K y = some (c, P) → PySem.W.CodeHd h c P ∧ h.get? P = some { cls := .none, data := .fields #[] })
    {f0 f1 f2 f3 f4 f5 f6 f7 f8 f9 f10 f11 f12 f13 f14 f15 f16 f17 f18 f19 f20 f21 f22 f23 f24 f25 f26 f27 f28 f29 f30 f31 f32 f33 f34 f35 f36 f37 f38 f39 f40 f41 f42 f43 f44 f45 f46 f47 f48 f49 f50 f51 f52 f53 f54 f55 f56 f57 f58 f59 f60 f61 f62 f63 f64 f65 f66 f67 f68 f69 f70 f71 f72 f73 f74 f75 f76 f77 : Addr} {od0 an0 od1 an1 od2 an2 od3 an3 od4 an4 od5 an5 od6 an6 od7 an7 od8 an8 od9 an9 od10 an10 od11 an11 od12 an12 od13 an13 od14 an14 od15 an15 od16 an16 od17 an17 od18 an18 od19 an19 od20 an20 od21 an21 od22 an22 od23 an23 od24 an24 od25 an25 od26 an26 od27 an27 od28 an28 od29 an29 od30 an30 od31 an31 od32 an32 od33 an33 od34 an34 od35 an35 od36 an36 od37 an37 od38 an38 od39 an39 od40 an40 od41 an41 od42 an42 od43 an43 od44 an44 od45 an45 od46 an46 od47 an47 od48 an48 od49 an49 od50 an50 od51 an51 od52 an52 od53 an53 od54 an54 od55 an55 od56 an56 od57 an57 od58 an58 od59 an59 od60 an60 od61 an61 od62 an62 od63 an63 od64 an64 od65 an65 od66 an66 od67 an67 od68 an68 od69 an69 od70 an70 od71 an71 od72 an72 od73 an73 od74 an74 od75 an75 od76 an76 od77 an77 : Option Addr} {sl0 sl1 sl2 sl3 sl4 sl5 sl6 sl7 sl8 sl9 sl10 sl11 sl12 sl13 sl14 sl15 sl16 sl17 sl18 sl19 sl20 sl21 sl22 sl23 sl24 sl25 sl26 sl27 sl28 sl29 sl30 sl31 sl32 sl33 sl34 sl35 sl36 sl37 sl38 sl39 sl40 sl41 sl42 sl43 sl44 sl45 sl46 sl47 sl48 sl49 sl50 sl51 sl52 sl53 sl54 sl55 sl56 sl57 sl58 sl59 sl60 sl61 sl62 sl63 sl64 sl65 sl66 sl67 sl68 sl69 sl70 sl71 sl72 sl73 sl74 sl75 sl76 sl77 : Array (Option Value)} {oc0 kV0 dc0 pm0 cd0 ct0 oc1 kV1 dc1 pm1 cd1 ct1 oc2 kV2 dc2 pm2 cd2 ct2 oc3 kV3 dc3 pm3 cd3 ct3 oc4 kV4 dc4 pm4 cd4 ct4 oc5 kV5 dc5 pm5 cd5 ct5 oc6 kV6 dc6 pm6 cd6 ct6 oc7 kV7 dc7 pm7 cd7 ct7 oc8 kV8 dc8 pm8 cd8 ct8 oc9 kV9 dc9 pm9 cd9 ct9 oc10 kV10 dc10 pm10 cd10 ct10 oc11 kV11 dc11 pm11 cd11 ct11 oc12 kV12 dc12 pm12 cd12 ct12 oc13 kV13 dc13 pm13 cd13 ct13 oc14 kV14 dc14 pm14 cd14 ct14 oc15 kV15 dc15 pm15 cd15 ct15 oc16 kV16 dc16 pm16 cd16 ct16 oc17 kV17 dc17 pm17 cd17 ct17 oc18 kV18 dc18 pm18 cd18 ct18 oc19 kV19 dc19 pm19 cd19 ct19 oc20 kV20 dc20 pm20 cd20 ct20 oc21 kV21 dc21 pm21 cd21 ct21 oc22 kV22 dc22 pm22 cd22 ct22 oc23 kV23 dc23 pm23 cd23 ct23 oc24 kV24 dc24 pm24 cd24 ct24 oc25 kV25 dc25 pm25 cd25 ct25 oc26 kV26 dc26 pm26 cd26 ct26 oc27 kV27 dc27 pm27 cd27 ct27 oc28 kV28 dc28 pm28 cd28 ct28 oc29 kV29 dc29 pm29 cd29 ct29 oc30 kV30 dc30 pm30 cd30 ct30 oc31 kV31 dc31 pm31 cd31 ct31 oc32 kV32 dc32 pm32 cd32 ct32 oc33 kV33 dc33 pm33 cd33 ct33 oc34 kV34 dc34 pm34 cd34 ct34 oc35 kV35 dc35 pm35 cd35 ct35 oc36 kV36 dc36 pm36 cd36 ct36 oc37 kV37 dc37 pm37 cd37 ct37 oc38 kV38 dc38 pm38 cd38 ct38 oc39 kV39 dc39 pm39 cd39 ct39 oc40 kV40 dc40 pm40 cd40 ct40 oc41 kV41 dc41 pm41 cd41 ct41 oc42 kV42 dc42 pm42 cd42 ct42 oc43 kV43 dc43 pm43 cd43 ct43 oc44 kV44 dc44 pm44 cd44 ct44 oc45 kV45 dc45 pm45 cd45 ct45 oc46 kV46 dc46 pm46 cd46 ct46 oc47 kV47 dc47 pm47 cd47 ct47 oc48 kV48 dc48 pm48 cd48 ct48 oc49 kV49 dc49 pm49 cd49 ct49 oc50 kV50 dc50 pm50 cd50 ct50 oc51 kV51 dc51 pm51 cd51 ct51 oc52 kV52 dc52 pm52 cd52 ct52 oc53 kV53 dc53 pm53 cd53 ct53 oc54 kV54 dc54 pm54 cd54 ct54 oc55 kV55 dc55 pm55 cd55 ct55 oc56 kV56 dc56 pm56 cd56 ct56 oc57 kV57 dc57 pm57 cd57 ct57 oc58 kV58 dc58 pm58 cd58 ct58 oc59 kV59 dc59 pm59 cd59 ct59 oc60 kV60 dc60 pm60 cd60 ct60 oc61 kV61 dc61 pm61 cd61 ct61 oc62 kV62 dc62 pm62 cd62 ct62 oc63 kV63 dc63 pm63 cd63 ct63 oc64 kV64 dc64 pm64 cd64 ct64 oc65 kV65 dc65 pm65 cd65 ct65 oc66 kV66 dc66 pm66 cd66 ct66 oc67 kV67 dc67 pm67 cd67 ct67 oc68 kV68 dc68 pm68 cd68 ct68 oc69 kV69 dc69 pm69 cd69 ct69 oc70 kV70 dc70 pm70 cd70 ct70 oc71 kV71 dc71 pm71 cd71 ct71 oc72 kV72 dc72 pm72 cd72 ct72 oc73 kV73 dc73 pm73 cd73 ct73 oc74 kV74 dc74 pm74 cd74 ct74 oc75 kV75 dc75 pm75 cd75 ct75 oc76 kV76 dc76 pm76 cd76 ct76 oc77 kV77 dc77 pm77 cd77 ct77 : Value}
    {CC_Search : Addr}
    (aC_Search : PySem.W.nsIn K mainGlobals "Search" = some (some (.ref CC_Search)))
    (a0 : PySem.W.nsIn K mainGlobals "fraction" = some (some (.ref f0))) (l0 : K.lookup f0 = some ⟨oc0, od0, .func (PySem.W.fnOf "fraction" "fraction" (defArgs s_fraction) (defBody s_fraction) (defScope s_fraction) .none kV0 dc0 pm0 an0 cd0 ct0), sl0⟩) (c0 : PySem.W.codeIn K cd0 "fraction" = true) (k0 : PySem.W.keepIn K (.ref f0) = true)
    (a1 : PySem.W.nsIn K mainGlobals "plus" = some (some (.ref f1))) (l1 : K.lookup f1 = some ⟨oc1, od1, .func (PySem.W.fnOf "plus" "plus" (defArgs s_plus) (defBody s_plus) (defScope s_plus) .none kV1 dc1 pm1 an1 cd1 ct1), sl1⟩) (c1 : PySem.W.codeIn K cd1 "plus" = true) (k1 : PySem.W.keepIn K (.ref f1) = true)
    (a2 : PySem.W.nsIn K mainGlobals "minus" = some (some (.ref f2))) (l2 : K.lookup f2 = some ⟨oc2, od2, .func (PySem.W.fnOf "minus" "minus" (defArgs s_minus) (defBody s_minus) (defScope s_minus) .none kV2 dc2 pm2 an2 cd2 ct2), sl2⟩) (c2 : PySem.W.codeIn K cd2 "minus" = true) (k2 : PySem.W.keepIn K (.ref f2) = true)
    (a3 : PySem.W.nsIn K mainGlobals "times" = some (some (.ref f3))) (l3 : K.lookup f3 = some ⟨oc3, od3, .func (PySem.W.fnOf "times" "times" (defArgs s_times) (defBody s_times) (defScope s_times) .none kV3 dc3 pm3 an3 cd3 ct3), sl3⟩) (c3 : PySem.W.codeIn K cd3 "times" = true) (k3 : PySem.W.keepIn K (.ref f3) = true)
    (a4 : PySem.W.nsIn K mainGlobals "over" = some (some (.ref f4))) (l4 : K.lookup f4 = some ⟨oc4, od4, .func (PySem.W.fnOf "over" "over" (defArgs s_over) (defBody s_over) (defScope s_over) .none kV4 dc4 pm4 an4 cd4 ct4), sl4⟩) (c4 : PySem.W.codeIn K cd4 "over" = true) (k4 : PySem.W.keepIn K (.ref f4) = true)
    (a5 : PySem.W.nsIn K mainGlobals "compare" = some (some (.ref f5))) (l5 : K.lookup f5 = some ⟨oc5, od5, .func (PySem.W.fnOf "compare" "compare" (defArgs s_compare) (defBody s_compare) (defScope s_compare) .none kV5 dc5 pm5 an5 cd5 ct5), sl5⟩) (c5 : PySem.W.codeIn K cd5 "compare" = true) (k5 : PySem.W.keepIn K (.ref f5) = true)
    (a6 : PySem.W.nsIn K mainGlobals "least" = some (some (.ref f6))) (l6 : K.lookup f6 = some ⟨oc6, od6, .func (PySem.W.fnOf "least" "least" (defArgs s_least) (defBody s_least) (defScope s_least) .none kV6 dc6 pm6 an6 cd6 ct6), sl6⟩) (c6 : PySem.W.codeIn K cd6 "least" = true) (k6 : PySem.W.keepIn K (.ref f6) = true)
    (a7 : PySem.W.nsIn K mainGlobals "greatest" = some (some (.ref f7))) (l7 : K.lookup f7 = some ⟨oc7, od7, .func (PySem.W.fnOf "greatest" "greatest" (defArgs s_greatest) (defBody s_greatest) (defScope s_greatest) .none kV7 dc7 pm7 an7 cd7 ct7), sl7⟩) (c7 : PySem.W.codeIn K cd7 "greatest" = true) (k7 : PySem.W.keepIn K (.ref f7) = true)
    (a8 : PySem.W.nsIn K mainGlobals "common_denominator" = some (some (.ref f8))) (l8 : K.lookup f8 = some ⟨oc8, od8, .func (PySem.W.fnOf "common_denominator" "common_denominator" (defArgs s_common_denominator) (defBody s_common_denominator) (defScope s_common_denominator) .none kV8 dc8 pm8 an8 cd8 ct8), sl8⟩) (c8 : PySem.W.codeIn K cd8 "common_denominator" = true) (k8 : PySem.W.keepIn K (.ref f8) = true)
    (a9 : PySem.W.nsIn K mainGlobals "add" = some (some (.ref f9))) (l9 : K.lookup f9 = some ⟨oc9, od9, .func (PySem.W.fnOf "add" "add" (defArgs s_add) (defBody s_add) (defScope s_add) .none kV9 dc9 pm9 an9 cd9 ct9), sl9⟩) (c9 : PySem.W.codeIn K cd9 "add" = true) (k9 : PySem.W.keepIn K (.ref f9) = true)
    (a10 : PySem.W.nsIn K mainGlobals "scale" = some (some (.ref f10))) (l10 : K.lookup f10 = some ⟨oc10, od10, .func (PySem.W.fnOf "scale" "scale" (defArgs s_scale) (defBody s_scale) (defScope s_scale) .none kV10 dc10 pm10 an10 cd10 ct10), sl10⟩) (c10 : PySem.W.codeIn K cd10 "scale" = true) (k10 : PySem.W.keepIn K (.ref f10) = true)
    (a11 : PySem.W.nsIn K mainGlobals "flight" = some (some (.ref f11))) (l11 : K.lookup f11 = some ⟨oc11, od11, .func (PySem.W.fnOf "flight" "flight" (defArgs s_flight) (defBody s_flight) (defScope s_flight) .none kV11 dc11 pm11 an11 cd11 ct11), sl11⟩) (c11 : PySem.W.codeIn K cd11 "flight" = true) (k11 : PySem.W.keepIn K (.ref f11) = true)
    (a12 : PySem.W.nsIn K mainGlobals "crossing_tick" = some (some (.ref f12))) (l12 : K.lookup f12 = some ⟨oc12, od12, .func (PySem.W.fnOf "crossing_tick" "crossing_tick" (defArgs s_crossing_tick) (defBody s_crossing_tick) (defScope s_crossing_tick) .none kV12 dc12 pm12 an12 cd12 ct12), sl12⟩) (c12 : PySem.W.codeIn K cd12 "crossing_tick" = true) (k12 : PySem.W.keepIn K (.ref f12) = true)
    (a13 : PySem.W.nsIn K mainGlobals "whole_numbers" = some (some (.ref f13))) (l13 : K.lookup f13 = some ⟨oc13, od13, .func (PySem.W.fnOf "whole_numbers" "whole_numbers" (defArgs s_whole_numbers) (defBody s_whole_numbers) (defScope s_whole_numbers) .none kV13 dc13 pm13 an13 cd13 ct13), sl13⟩) (c13 : PySem.W.codeIn K cd13 "whole_numbers" = true) (k13 : PySem.W.keepIn K (.ref f13) = true)
    (a14 : PySem.W.nsIn K mainGlobals "height_after" = some (some (.ref f14))) (l14 : K.lookup f14 = some ⟨oc14, od14, .func (PySem.W.fnOf "height_after" "height_after" (defArgs s_height_after) (defBody s_height_after) (defScope s_height_after) .none kV14 dc14 pm14 an14 cd14 ct14), sl14⟩) (c14 : PySem.W.codeIn K cd14 "height_after" = true) (k14 : PySem.W.keepIn K (.ref f14) = true)
    (a15 : PySem.W.nsIn K mainGlobals "last_fall" = some (some (.ref f15))) (l15 : K.lookup f15 = some ⟨oc15, od15, .func (PySem.W.fnOf "last_fall" "last_fall" (defArgs s_last_fall) (defBody s_last_fall) (defScope s_last_fall) .none kV15 dc15 pm15 an15 cd15 ct15), sl15⟩) (c15 : PySem.W.codeIn K cd15 "last_fall" = true) (k15 : PySem.W.keepIn K (.ref f15) = true)
    (a16 : PySem.W.nsIn K mainGlobals "ticks_before_turn" = some (some (.ref f16))) (l16 : K.lookup f16 = some ⟨oc16, od16, .func (PySem.W.fnOf "ticks_before_turn" "ticks_before_turn" (defArgs s_ticks_before_turn) (defBody s_ticks_before_turn) (defScope s_ticks_before_turn) .none kV16 dc16 pm16 an16 cd16 ct16), sl16⟩) (c16 : PySem.W.codeIn K cd16 "ticks_before_turn" = true) (k16 : PySem.W.keepIn K (.ref f16) = true)
    (a17 : PySem.W.nsIn K mainGlobals "first_below" = some (some (.ref f17))) (l17 : K.lookup f17 = some ⟨oc17, od17, .func (PySem.W.fnOf "first_below" "first_below" (defArgs s_first_below) (defBody s_first_below) (defScope s_first_below) .none kV17 dc17 pm17 an17 cd17 ct17), sl17⟩) (c17 : PySem.W.codeIn K cd17 "first_below" = true) (k17 : PySem.W.keepIn K (.ref f17) = true)
    (a18 : PySem.W.nsIn K mainGlobals "highest_tick" = some (some (.ref f18))) (l18 : K.lookup f18 = some ⟨oc18, od18, .func (PySem.W.fnOf "highest_tick" "highest_tick" (defArgs s_highest_tick) (defBody s_highest_tick) (defScope s_highest_tick) .none kV18 dc18 pm18 an18 cd18 ct18), sl18⟩) (c18 : PySem.W.codeIn K cd18 "highest_tick" = true) (k18 : PySem.W.keepIn K (.ref f18) = true)
    (a19 : PySem.W.nsIn K mainGlobals "nearest" = some (some (.ref f19))) (l19 : K.lookup f19 = some ⟨oc19, od19, .func (PySem.W.fnOf "nearest" "nearest" (defArgs s_nearest) (defBody s_nearest) (defScope s_nearest) .none kV19 dc19 pm19 an19 cd19 ct19), sl19⟩) (c19 : PySem.W.codeIn K cd19 "nearest" = true) (k19 : PySem.W.keepIn K (.ref f19) = true)
    (a20 : PySem.W.nsIn K mainGlobals "check_task" = some (some (.ref f20))) (l20 : K.lookup f20 = some ⟨oc20, od20, .func (PySem.W.fnOf "check_task" "check_task" (defArgs s_check_task) (defBody s_check_task) (defScope s_check_task) .none kV20 dc20 pm20 an20 cd20 ct20), sl20⟩) (c20 : PySem.W.codeIn K cd20 "check_task" = true) (k20 : PySem.W.keepIn K (.ref f20) = true)
    (a21 : PySem.W.nsIn K mainGlobals "check_parts" = some (some (.ref f21))) (l21 : K.lookup f21 = some ⟨oc21, od21, .func (PySem.W.fnOf "check_parts" "check_parts" (defArgs s_check_parts) (defBody s_check_parts) (defScope s_check_parts) .none kV21 dc21 pm21 an21 cd21 ct21), sl21⟩) (c21 : PySem.W.codeIn K cd21 "check_parts" = true) (k21 : PySem.W.keepIn K (.ref f21) = true)
    (a22 : PySem.W.findIn K (.ref CC_Search) "__init__" = some (some (.ref f22))) (i22 : PySem.W.isFn K (.ref f22) = true) (l22 : K.lookup f22 = some ⟨oc22, od22, .func (PySem.W.fnOf "__init__" "Search.__init__" (defArgs s_Search_init) (defBody s_Search_init) (defScope s_Search_init) .none kV22 dc22 pm22 an22 cd22 ct22), sl22⟩) (c22 : PySem.W.codeIn K cd22 "Search.__init__" = true) (k22 : PySem.W.keepIn K (.ref f22) = true)
    (a23 : PySem.W.findIn K (.ref CC_Search) "worst_line" = some (some (.ref f23))) (i23 : PySem.W.isFn K (.ref f23) = true) (l23 : K.lookup f23 = some ⟨oc23, od23, .func (PySem.W.fnOf "worst_line" "Search.worst_line" (defArgs s_Search_worst_line) (defBody s_Search_worst_line) (defScope s_Search_worst_line) .none kV23 dc23 pm23 an23 cd23 ct23), sl23⟩) (c23 : PySem.W.codeIn K cd23 "Search.worst_line" = true) (k23 : PySem.W.keepIn K (.ref f23) = true)
    (a24 : PySem.W.findIn K (.ref CC_Search) "raise_line" = some (some (.ref f24))) (i24 : PySem.W.isFn K (.ref f24) = true) (l24 : K.lookup f24 = some ⟨oc24, od24, .func (PySem.W.fnOf "raise_line" "Search.raise_line" (defArgs s_Search_raise_line) (defBody s_Search_raise_line) (defScope s_Search_raise_line) .none kV24 dc24 pm24 an24 cd24 ct24), sl24⟩) (c24 : PySem.W.codeIn K cd24 "Search.raise_line" = true) (k24 : PySem.W.keepIn K (.ref f24) = true)
    (a25 : PySem.W.findIn K (.ref CC_Search) "forces" = some (some (.ref f25))) (i25 : PySem.W.isFn K (.ref f25) = true) (l25 : K.lookup f25 = some ⟨oc25, od25, .func (PySem.W.fnOf "forces" "Search.forces" (defArgs s_Search_forces) (defBody s_Search_forces) (defScope s_Search_forces) .none kV25 dc25 pm25 an25 cd25 ct25), sl25⟩) (c25 : PySem.W.codeIn K cd25 "Search.forces" = true) (k25 : PySem.W.keepIn K (.ref f25) = true)
    (a26 : PySem.W.nsIn K mainGlobals "scale_of" = some (some (.ref f26))) (l26 : K.lookup f26 = some ⟨oc26, od26, .func (PySem.W.fnOf "scale_of" "scale_of" (defArgs s_scale_of) (defBody s_scale_of) (defScope s_scale_of) .none kV26 dc26 pm26 an26 cd26 ct26), sl26⟩) (c26 : PySem.W.codeIn K cd26 "scale_of" = true) (k26 : PySem.W.keepIn K (.ref f26) = true)
    (a27 : PySem.W.nsIn K mainGlobals "whole_factors" = some (some (.ref f27))) (l27 : K.lookup f27 = some ⟨oc27, od27, .func (PySem.W.fnOf "whole_factors" "whole_factors" (defArgs s_whole_factors) (defBody s_whole_factors) (defScope s_whole_factors) .none kV27 dc27 pm27 an27 cd27 ct27), sl27⟩) (c27 : PySem.W.codeIn K cd27 "whole_factors" = true) (k27 : PySem.W.keepIn K (.ref f27) = true)
    (a28 : PySem.W.nsIn K mainGlobals "is_sized" = some (some (.ref f28))) (l28 : K.lookup f28 = some ⟨oc28, od28, .func (PySem.W.fnOf "is_sized" "is_sized" (defArgs s_is_sized) (defBody s_is_sized) (defScope s_is_sized) .none kV28 dc28 pm28 an28 cd28 ct28), sl28⟩) (c28 : PySem.W.codeIn K cd28 "is_sized" = true) (k28 : PySem.W.keepIn K (.ref f28) = true)
    (a29 : PySem.W.nsIn K mainGlobals "ends_of" = some (some (.ref f29))) (l29 : K.lookup f29 = some ⟨oc29, od29, .func (PySem.W.fnOf "ends_of" "ends_of" (defArgs s_ends_of) (defBody s_ends_of) (defScope s_ends_of) .none kV29 dc29 pm29 an29 cd29 ct29), sl29⟩) (c29 : PySem.W.codeIn K cd29 "ends_of" = true) (k29 : PySem.W.keepIn K (.ref f29) = true)
    (a30 : PySem.W.nsIn K mainGlobals "gap_of_ends" = some (some (.ref f30))) (l30 : K.lookup f30 = some ⟨oc30, od30, .func (PySem.W.fnOf "gap_of_ends" "gap_of_ends" (defArgs s_gap_of_ends) (defBody s_gap_of_ends) (defScope s_gap_of_ends) .none kV30 dc30 pm30 an30 cd30 ct30), sl30⟩) (c30 : PySem.W.codeIn K cd30 "gap_of_ends" = true) (k30 : PySem.W.keepIn K (.ref f30) = true)
    (a31 : PySem.W.nsIn K mainGlobals "ends_overlap" = some (some (.ref f31))) (l31 : K.lookup f31 = some ⟨oc31, od31, .func (PySem.W.fnOf "ends_overlap" "ends_overlap" (defArgs s_ends_overlap) (defBody s_ends_overlap) (defScope s_ends_overlap) .none kV31 dc31 pm31 an31 cd31 ct31), sl31⟩) (c31 : PySem.W.codeIn K cd31 "ends_overlap" = true) (k31 : PySem.W.keepIn K (.ref f31) = true)
    (a32 : PySem.W.nsIn K mainGlobals "check_state" = some (some (.ref f32))) (l32 : K.lookup f32 = some ⟨oc32, od32, .func (PySem.W.fnOf "check_state" "check_state" (defArgs s_check_state) (defBody s_check_state) (defScope s_check_state) .none kV32 dc32 pm32 an32 cd32 ct32), sl32⟩) (c32 : PySem.W.codeIn K cd32 "check_state" = true) (k32 : PySem.W.keepIn K (.ref f32) = true)
    (a33 : PySem.W.nsIn K mainGlobals "check_bodies" = some (some (.ref f33))) (l33 : K.lookup f33 = some ⟨oc33, od33, .func (PySem.W.fnOf "check_bodies" "check_bodies" (defArgs s_check_bodies) (defBody s_check_bodies) (defScope s_check_bodies) .none kV33 dc33 pm33 an33 cd33 ct33), sl33⟩) (c33 : PySem.W.codeIn K cd33 "check_bodies" = true) (k33 : PySem.W.keepIn K (.ref f33) = true)
    (a34 : PySem.W.nsIn K mainGlobals "is_body_sound" = some (some (.ref f34))) (l34 : K.lookup f34 = some ⟨oc34, od34, .func (PySem.W.fnOf "is_body_sound" "is_body_sound" (defArgs s_is_body_sound) (defBody s_is_body_sound) (defScope s_is_body_sound) .none kV34 dc34 pm34 an34 cd34 ct34), sl34⟩) (c34 : PySem.W.codeIn K cd34 "is_body_sound" = true) (k34 : PySem.W.keepIn K (.ref f34) = true)
    (a35 : PySem.W.nsIn K mainGlobals "check_overlaps" = some (some (.ref f35))) (l35 : K.lookup f35 = some ⟨oc35, od35, .func (PySem.W.fnOf "check_overlaps" "check_overlaps" (defArgs s_check_overlaps) (defBody s_check_overlaps) (defScope s_check_overlaps) .none kV35 dc35 pm35 an35 cd35 ct35), sl35⟩) (c35 : PySem.W.codeIn K cd35 "check_overlaps" = true) (k35 : PySem.W.keepIn K (.ref f35) = true)
    (a36 : PySem.W.nsIn K mainGlobals "check_joint" = some (some (.ref f36))) (l36 : K.lookup f36 = some ⟨oc36, od36, .func (PySem.W.fnOf "check_joint" "check_joint" (defArgs s_check_joint) (defBody s_check_joint) (defScope s_check_joint) .none kV36 dc36 pm36 an36 cd36 ct36), sl36⟩) (c36 : PySem.W.codeIn K cd36 "check_joint" = true) (k36 : PySem.W.keepIn K (.ref f36) = true)
    (a37 : PySem.W.nsIn K mainGlobals "joint_way" = some (some (.ref f37))) (l37 : K.lookup f37 = some ⟨oc37, od37, .func (PySem.W.fnOf "joint_way" "joint_way" (defArgs s_joint_way) (defBody s_joint_way) (defScope s_joint_way) .none kV37 dc37 pm37 an37 cd37 ct37), sl37⟩) (c37 : PySem.W.codeIn K cd37 "joint_way" = true) (k37 : PySem.W.keepIn K (.ref f37) = true)
    (a38 : PySem.W.nsIn K mainGlobals "is_moving" = some (some (.ref f38))) (l38 : K.lookup f38 = some ⟨oc38, od38, .func (PySem.W.fnOf "is_moving" "is_moving" (defArgs s_is_moving) (defBody s_is_moving) (defScope s_is_moving) .none kV38 dc38 pm38 an38 cd38 ct38), sl38⟩) (c38 : PySem.W.codeIn K cd38 "is_moving" = true) (k38 : PySem.W.keepIn K (.ref f38) = true)
    (a39 : PySem.W.nsIn K mainGlobals "are_moving_names" = some (some (.ref f39))) (l39 : K.lookup f39 = some ⟨oc39, od39, .func (PySem.W.fnOf "are_moving_names" "are_moving_names" (defArgs s_are_moving_names) (defBody s_are_moving_names) (defScope s_are_moving_names) .none kV39 dc39 pm39 an39 cd39 ct39), sl39⟩) (c39 : PySem.W.codeIn K cd39 "are_moving_names" = true) (k39 : PySem.W.keepIn K (.ref f39) = true)
    (a40 : PySem.W.nsIn K mainGlobals "box_of_body" = some (some (.ref f40))) (l40 : K.lookup f40 = some ⟨oc40, od40, .func (PySem.W.fnOf "box_of_body" "box_of_body" (defArgs s_box_of_body) (defBody s_box_of_body) (defScope s_box_of_body) .none kV40 dc40 pm40 an40 cd40 ct40), sl40⟩) (c40 : PySem.W.codeIn K cd40 "box_of_body" = true) (k40 : PySem.W.keepIn K (.ref f40) = true)
    (a41 : PySem.W.nsIn K mainGlobals "places_of" = some (some (.ref f41))) (l41 : K.lookup f41 = some ⟨oc41, od41, .func (PySem.W.fnOf "places_of" "places_of" (defArgs s_places_of) (defBody s_places_of) (defScope s_places_of) .none kV41 dc41 pm41 an41 cd41 ct41), sl41⟩) (c41 : PySem.W.codeIn K cd41 "places_of" = true) (k41 : PySem.W.keepIn K (.ref f41) = true)
    (a42 : PySem.W.nsIn K mainGlobals "check_pushes" = some (some (.ref f42))) (l42 : K.lookup f42 = some ⟨oc42, od42, .func (PySem.W.fnOf "check_pushes" "check_pushes" (defArgs s_check_pushes) (defBody s_check_pushes) (defScope s_check_pushes) .none kV42 dc42 pm42 an42 cd42 ct42), sl42⟩) (c42 : PySem.W.codeIn K cd42 "check_pushes" = true) (k42 : PySem.W.keepIn K (.ref f42) = true)
    (a43 : PySem.W.nsIn K mainGlobals "check_pushed" = some (some (.ref f43))) (l43 : K.lookup f43 = some ⟨oc43, od43, .func (PySem.W.fnOf "check_pushed" "check_pushed" (defArgs s_check_pushed) (defBody s_check_pushed) (defScope s_check_pushed) .none kV43 dc43 pm43 an43 cd43 ct43), sl43⟩) (c43 : PySem.W.codeIn K cd43 "check_pushed" = true) (k43 : PySem.W.keepIn K (.ref f43) = true)
    (a44 : PySem.W.nsIn K mainGlobals "plain_rows" = some (some (.ref f44))) (l44 : K.lookup f44 = some ⟨oc44, od44, .func (PySem.W.fnOf "plain_rows" "plain_rows" (defArgs s_plain_rows) (defBody s_plain_rows) (defScope s_plain_rows) .none kV44 dc44 pm44 an44 cd44 ct44), sl44⟩) (c44 : PySem.W.codeIn K cd44 "plain_rows" = true) (k44 : PySem.W.keepIn K (.ref f44) = true)
    (a45 : PySem.W.nsIn K mainGlobals "full_rows" = some (some (.ref f45))) (l45 : K.lookup f45 = some ⟨oc45, od45, .func (PySem.W.fnOf "full_rows" "full_rows" (defArgs s_full_rows) (defBody s_full_rows) (defScope s_full_rows) .none kV45 dc45 pm45 an45 cd45 ct45), sl45⟩) (c45 : PySem.W.codeIn K cd45 "full_rows" = true) (k45 : PySem.W.keepIn K (.ref f45) = true)
    (a46 : PySem.W.nsIn K mainGlobals "items_of" = some (some (.ref f46))) (l46 : K.lookup f46 = some ⟨oc46, od46, .func (PySem.W.fnOf "items_of" "items_of" (defArgs s_items_of) (defBody s_items_of) (defScope s_items_of) .none kV46 dc46 pm46 an46 cd46 ct46), sl46⟩) (c46 : PySem.W.codeIn K cd46 "items_of" = true) (k46 : PySem.W.keepIn K (.ref f46) = true)
    (a47 : PySem.W.nsIn K mainGlobals "free_speed" = some (some (.ref f47))) (l47 : K.lookup f47 = some ⟨oc47, od47, .func (PySem.W.fnOf "free_speed" "free_speed" (defArgs s_free_speed) (defBody s_free_speed) (defScope s_free_speed) .none kV47 dc47 pm47 an47 cd47 ct47), sl47⟩) (c47 : PySem.W.codeIn K cd47 "free_speed" = true) (k47 : PySem.W.keepIn K (.ref f47) = true)
    (a48 : PySem.W.nsIn K mainGlobals "pairs_of" = some (some (.ref f48))) (l48 : K.lookup f48 = some ⟨oc48, od48, .func (PySem.W.fnOf "pairs_of" "pairs_of" (defArgs s_pairs_of) (defBody s_pairs_of) (defScope s_pairs_of) .none kV48 dc48 pm48 an48 cd48 ct48), sl48⟩) (c48 : PySem.W.codeIn K cd48 "pairs_of" = true) (k48 : PySem.W.keepIn K (.ref f48) = true)
    (a49 : PySem.W.nsIn K mainGlobals "gap_of_items" = some (some (.ref f49))) (l49 : K.lookup f49 = some ⟨oc49, od49, .func (PySem.W.fnOf "gap_of_items" "gap_of_items" (defArgs s_gap_of_items) (defBody s_gap_of_items) (defScope s_gap_of_items) .none kV49 dc49 pm49 an49 cd49 ct49), sl49⟩) (c49 : PySem.W.codeIn K cd49 "gap_of_items" = true) (k49 : PySem.W.keepIn K (.ref f49) = true)
    (a50 : PySem.W.nsIn K mainGlobals "in_line" = some (some (.ref f50))) (l50 : K.lookup f50 = some ⟨oc50, od50, .func (PySem.W.fnOf "in_line" "in_line" (defArgs s_in_line) (defBody s_in_line) (defScope s_in_line) .none kV50 dc50 pm50 an50 cd50 ct50), sl50⟩) (c50 : PySem.W.codeIn K cd50 "in_line" = true) (k50 : PySem.W.keepIn K (.ref f50) = true)
    (a51 : PySem.W.nsIn K mainGlobals "end_gap" = some (some (.ref f51))) (l51 : K.lookup f51 = some ⟨oc51, od51, .func (PySem.W.fnOf "end_gap" "end_gap" (defArgs s_end_gap) (defBody s_end_gap) (defScope s_end_gap) .none kV51 dc51 pm51 an51 cd51 ct51), sl51⟩) (c51 : PySem.W.codeIn K cd51 "end_gap" = true) (k51 : PySem.W.keepIn K (.ref f51) = true)
    (a52 : PySem.W.nsIn K mainGlobals "axis_of_items" = some (some (.ref f52))) (l52 : K.lookup f52 = some ⟨oc52, od52, .func (PySem.W.fnOf "axis_of_items" "axis_of_items" (defArgs s_axis_of_items) (defBody s_axis_of_items) (defScope s_axis_of_items) .none kV52 dc52 pm52 an52 cd52 ct52), sl52⟩) (c52 : PySem.W.codeIn K cd52 "axis_of_items" = true) (k52 : PySem.W.keepIn K (.ref f52) = true)
    (a53 : PySem.W.nsIn K mainGlobals "rows_of_items" = some (some (.ref f53))) (l53 : K.lookup f53 = some ⟨oc53, od53, .func (PySem.W.fnOf "rows_of_items" "rows_of_items" (defArgs s_rows_of_items) (defBody s_rows_of_items) (defScope s_rows_of_items) .none kV53 dc53 pm53 an53 cd53 ct53), sl53⟩) (c53 : PySem.W.codeIn K cd53 "rows_of_items" = true) (k53 : PySem.W.keepIn K (.ref f53) = true)
    (a54 : PySem.W.nsIn K mainGlobals "parts_of" = some (some (.ref f54))) (l54 : K.lookup f54 = some ⟨oc54, od54, .func (PySem.W.fnOf "parts_of" "parts_of" (defArgs s_parts_of) (defBody s_parts_of) (defScope s_parts_of) .none kV54 dc54 pm54 an54 cd54 ct54), sl54⟩) (c54 : PySem.W.codeIn K cd54 "parts_of" = true) (k54 : PySem.W.keepIn K (.ref f54) = true)
    (a55 : PySem.W.nsIn K mainGlobals "rows_of_joints" = some (some (.ref f55))) (l55 : K.lookup f55 = some ⟨oc55, od55, .func (PySem.W.fnOf "rows_of_joints" "rows_of_joints" (defArgs s_rows_of_joints) (defBody s_rows_of_joints) (defScope s_rows_of_joints) .none kV55 dc55 pm55 an55 cd55 ct55), sl55⟩) (c55 : PySem.W.codeIn K cd55 "rows_of_joints" = true) (k55 : PySem.W.keepIn K (.ref f55) = true)
    (a56 : PySem.W.nsIn K mainGlobals "spots_of" = some (some (.ref f56))) (l56 : K.lookup f56 = some ⟨oc56, od56, .func (PySem.W.fnOf "spots_of" "spots_of" (defArgs s_spots_of) (defBody s_spots_of) (defScope s_spots_of) .none kV56 dc56 pm56 an56 cd56 ct56), sl56⟩) (c56 : PySem.W.codeIn K cd56 "spots_of" = true) (k56 : PySem.W.keepIn K (.ref f56) = true)
    (a57 : PySem.W.nsIn K mainGlobals "task_of" = some (some (.ref f57))) (l57 : K.lookup f57 = some ⟨oc57, od57, .func (PySem.W.fnOf "task_of" "task_of" (defArgs s_task_of) (defBody s_task_of) (defScope s_task_of) .none kV57 dc57 pm57 an57 cd57 ct57), sl57⟩) (c57 : PySem.W.codeIn K cd57 "task_of" = true) (k57 : PySem.W.keepIn K (.ref f57) = true)
    (a58 : PySem.W.nsIn K mainGlobals "lines_of_rows" = some (some (.ref f58))) (l58 : K.lookup f58 = some ⟨oc58, od58, .func (PySem.W.fnOf "lines_of_rows" "lines_of_rows" (defArgs s_lines_of_rows) (defBody s_lines_of_rows) (defScope s_lines_of_rows) .none kV58 dc58 pm58 an58 cd58 ct58), sl58⟩) (c58 : PySem.W.codeIn K cd58 "lines_of_rows" = true) (k58 : PySem.W.keepIn K (.ref f58) = true)
    (a59 : PySem.W.nsIn K mainGlobals "settle" = some (some (.ref f59))) (l59 : K.lookup f59 = some ⟨oc59, od59, .func (PySem.W.fnOf "settle" "settle" (defArgs s_settle) (defBody s_settle) (defScope s_settle) .none kV59 dc59 pm59 an59 cd59 ct59), sl59⟩) (c59 : PySem.W.codeIn K cd59 "settle" = true) (k59 : PySem.W.keepIn K (.ref f59) = true)
    (a60 : PySem.W.nsIn K mainGlobals "speeds_at" = some (some (.ref f60))) (l60 : K.lookup f60 = some ⟨oc60, od60, .func (PySem.W.fnOf "speeds_at" "speeds_at" (defArgs s_speeds_at) (defBody s_speeds_at) (defScope s_speeds_at) .none kV60 dc60 pm60 an60 cd60 ct60), sl60⟩) (c60 : PySem.W.codeIn K cd60 "speeds_at" = true) (k60 : PySem.W.keepIn K (.ref f60) = true)
    (a61 : PySem.W.nsIn K mainGlobals "tick" = some (some (.ref f61))) (l61 : K.lookup f61 = some ⟨oc61, od61, .func (PySem.W.fnOf "tick" "tick" (defArgs s_tick) (defBody s_tick) (defScope s_tick) .none kV61 dc61 pm61 an61 cd61 ct61), sl61⟩) (c61 : PySem.W.codeIn K cd61 "tick" = true) (k61 : PySem.W.keepIn K (.ref f61) = true)
    (a62 : PySem.W.nsIn K mainGlobals "ticked" = some (some (.ref f62))) (l62 : K.lookup f62 = some ⟨oc62, od62, .func (PySem.W.fnOf "ticked" "ticked" (defArgs s_ticked) (defBody s_ticked) (defScope s_ticked) .none kV62 dc62 pm62 an62 cd62 ct62), sl62⟩) (c62 : PySem.W.codeIn K cd62 "ticked" = true) (k62 : PySem.W.keepIn K (.ref f62) = true)
    (a63 : PySem.W.nsIn K mainGlobals "with_speeds" = some (some (.ref f63))) (l63 : K.lookup f63 = some ⟨oc63, od63, .func (PySem.W.fnOf "with_speeds" "with_speeds" (defArgs s_with_speeds) (defBody s_with_speeds) (defScope s_with_speeds) .none kV63 dc63 pm63 an63 cd63 ct63), sl63⟩) (c63 : PySem.W.codeIn K cd63 "with_speeds" = true) (k63 : PySem.W.keepIn K (.ref f63) = true)
    (a64 : PySem.W.nsIn K mainGlobals "_law_begin" = some (some (.ref f64))) (l64 : K.lookup f64 = some ⟨oc64, od64, .func (PySem.W.fnOf "_law_begin" "_law_begin" (defArgs s_law_begin) (defBody s_law_begin) (defScope s_law_begin) .none kV64 dc64 pm64 an64 cd64 ct64), sl64⟩) (c64 : PySem.W.codeIn K cd64 "_law_begin" = true) (k64 : PySem.W.keepIn K (.ref f64) = true)
    (a65 : PySem.W.nsIn K mainGlobals "_law_take" = some (some (.ref f65))) (l65 : K.lookup f65 = some ⟨oc65, od65, .func (PySem.W.fnOf "_law_take" "_law_take" (defArgs s_law_take) (defBody s_law_take) (defScope s_law_take) .none kV65 dc65 pm65 an65 cd65 ct65), sl65⟩) (c65 : PySem.W.codeIn K cd65 "_law_take" = true) (k65 : PySem.W.keepIn K (.ref f65) = true)
    (a66 : PySem.W.nsIn K mainGlobals "_law_signed" = some (some (.ref f66))) (l66 : K.lookup f66 = some ⟨oc66, od66, .func (PySem.W.fnOf "_law_signed" "_law_signed" (defArgs s_law_signed) (defBody s_law_signed) (defScope s_law_signed) .none kV66 dc66 pm66 an66 cd66 ct66), sl66⟩) (c66 : PySem.W.codeIn K cd66 "_law_signed" = true) (k66 : PySem.W.keepIn K (.ref f66) = true)
    (a67 : PySem.W.nsIn K mainGlobals "_law_gcd" = some (some (.ref f67))) (l67 : K.lookup f67 = some ⟨oc67, od67, .func (PySem.W.fnOf "_law_gcd" "_law_gcd" (defArgs s_law_gcd) (defBody s_law_gcd) (defScope s_law_gcd) .none kV67 dc67 pm67 an67 cd67 ct67), sl67⟩) (c67 : PySem.W.codeIn K cd67 "_law_gcd" = true) (k67 : PySem.W.keepIn K (.ref f67) = true)
    (a68 : PySem.W.nsIn K mainGlobals "_law_f" = some (some (.ref f68))) (l68 : K.lookup f68 = some ⟨oc68, od68, .func (PySem.W.fnOf "_law_f" "_law_f" (defArgs s_law_f) (defBody s_law_f) (defScope s_law_f) .none kV68 dc68 pm68 an68 cd68 ct68), sl68⟩) (c68 : PySem.W.codeIn K cd68 "_law_f" = true) (k68 : PySem.W.keepIn K (.ref f68) = true)
    (a69 : PySem.W.nsIn K mainGlobals "_law_plus" = some (some (.ref f69))) (l69 : K.lookup f69 = some ⟨oc69, od69, .func (PySem.W.fnOf "_law_plus" "_law_plus" (defArgs s_law_plus) (defBody s_law_plus) (defScope s_law_plus) .none kV69 dc69 pm69 an69 cd69 ct69), sl69⟩) (c69 : PySem.W.codeIn K cd69 "_law_plus" = true) (k69 : PySem.W.keepIn K (.ref f69) = true)
    (a70 : PySem.W.nsIn K mainGlobals "_law_minus" = some (some (.ref f70))) (l70 : K.lookup f70 = some ⟨oc70, od70, .func (PySem.W.fnOf "_law_minus" "_law_minus" (defArgs s_law_minus) (defBody s_law_minus) (defScope s_law_minus) .none kV70 dc70 pm70 an70 cd70 ct70), sl70⟩) (c70 : PySem.W.codeIn K cd70 "_law_minus" = true) (k70 : PySem.W.keepIn K (.ref f70) = true)
    (a71 : PySem.W.nsIn K mainGlobals "_law_less" = some (some (.ref f71))) (l71 : K.lookup f71 = some ⟨oc71, od71, .func (PySem.W.fnOf "_law_less" "_law_less" (defArgs s_law_less) (defBody s_law_less) (defScope s_law_less) .none kV71 dc71 pm71 an71 cd71 ct71), sl71⟩) (c71 : PySem.W.codeIn K cd71 "_law_less" = true) (k71 : PySem.W.keepIn K (.ref f71) = true)
    (a72 : PySem.W.nsIn K mainGlobals "_law_part" = some (some (.ref f72))) (l72 : K.lookup f72 = some ⟨oc72, od72, .func (PySem.W.fnOf "_law_part" "_law_part" (defArgs s_law_part) (defBody s_law_part) (defScope s_law_part) .none kV72 dc72 pm72 an72 cd72 ct72), sl72⟩) (c72 : PySem.W.codeIn K cd72 "_law_part" = true) (k72 : PySem.W.keepIn K (.ref f72) = true)
    (a73 : PySem.W.nsIn K mainGlobals "_law_vector" = some (some (.ref f73))) (l73 : K.lookup f73 = some ⟨oc73, od73, .func (PySem.W.fnOf "_law_vector" "_law_vector" (defArgs s_law_vector) (defBody s_law_vector) (defScope s_law_vector) .none kV73 dc73 pm73 an73 cd73 ct73), sl73⟩) (c73 : PySem.W.codeIn K cd73 "_law_vector" = true) (k73 : PySem.W.keepIn K (.ref f73) = true)
    (a74 : PySem.W.nsIn K mainGlobals "_law_told" = some (some (.ref f74))) (l74 : K.lookup f74 = some ⟨oc74, od74, .func (PySem.W.fnOf "_law_told" "_law_told" (defArgs s_law_told) (defBody s_law_told) (defScope s_law_told) .none kV74 dc74 pm74 an74 cd74 ct74), sl74⟩) (c74 : PySem.W.codeIn K cd74 "_law_told" = true) (k74 : PySem.W.keepIn K (.ref f74) = true)
    (a75 : PySem.W.nsIn K mainGlobals "_law_walk" = some (some (.ref f75))) (l75 : K.lookup f75 = some ⟨oc75, od75, .func (PySem.W.fnOf "_law_walk" "_law_walk" (defArgs s_law_walk) (defBody s_law_walk) (defScope s_law_walk) .none kV75 dc75 pm75 an75 cd75 ct75), sl75⟩) (c75 : PySem.W.codeIn K cd75 "_law_walk" = true) (k75 : PySem.W.keepIn K (.ref f75) = true)
    (a76 : PySem.W.nsIn K mainGlobals "_law_cross" = some (some (.ref f76))) (l76 : K.lookup f76 = some ⟨oc76, od76, .func (PySem.W.fnOf "_law_cross" "_law_cross" (defArgs s_law_cross) (defBody s_law_cross) (defScope s_law_cross) .none kV76 dc76 pm76 an76 cd76 ct76), sl76⟩) (c76 : PySem.W.codeIn K cd76 "_law_cross" = true) (k76 : PySem.W.keepIn K (.ref f76) = true)
    (a77 : PySem.W.nsIn K mainGlobals "law" = some (some (.ref f77))) (l77 : K.lookup f77 = some ⟨oc77, od77, .func (PySem.W.fnOf "law" "law" (defArgs s_law) (defBody s_law) (defScope s_law) .none kV77 dc77 pm77 an77 cd77 ct77), sl77⟩) (c77 : PySem.W.codeIn K cd77 "law" = true) (k77 : PySem.W.keepIn K (.ref f77) = true)
    {tca_check_task tpa_check_task : Addr} {uc_check_task : Value} {ud_check_task : Option Addr} {uv_check_task : Array Value} {us_check_task : Array (Option Value)} (ce_check_task : cd20 = .ref tca_check_task) (u_check_task : K.lookup tca_check_task = some ⟨uc_check_task, ud_check_task, .fields uv_check_task, us_check_task⟩) (uw_check_task : (uv_check_task[11]? : Option Value) = some (.ref tpa_check_task)) (tn_check_task : K.lookup tpa_check_task = none) (tr_check_task : ((PyProof.Rows.recsOf qq).any fun e => e.name == "check_task") = true)
    {tca_ends_overlap tpa_ends_overlap : Addr} {uc_ends_overlap : Value} {ud_ends_overlap : Option Addr} {uv_ends_overlap : Array Value} {us_ends_overlap : Array (Option Value)} (ce_ends_overlap : cd31 = .ref tca_ends_overlap) (u_ends_overlap : K.lookup tca_ends_overlap = some ⟨uc_ends_overlap, ud_ends_overlap, .fields uv_ends_overlap, us_ends_overlap⟩) (uw_ends_overlap : (uv_ends_overlap[11]? : Option Value) = some (.ref tpa_ends_overlap)) (tn_ends_overlap : K.lookup tpa_ends_overlap = none) (tr_ends_overlap : ((PyProof.Rows.recsOf qq).any fun e => e.name == "ends_overlap") = true)
    {tca_parts_of tpa_parts_of : Addr} {uc_parts_of : Value} {ud_parts_of : Option Addr} {uv_parts_of : Array Value} {us_parts_of : Array (Option Value)} (ce_parts_of : cd54 = .ref tca_parts_of) (u_parts_of : K.lookup tca_parts_of = some ⟨uc_parts_of, ud_parts_of, .fields uv_parts_of, us_parts_of⟩) (uw_parts_of : (uv_parts_of[11]? : Option Value) = some (.ref tpa_parts_of)) (tn_parts_of : K.lookup tpa_parts_of = none) (tr_parts_of : ((PyProof.Rows.recsOf qq).any fun e => e.name == "parts_of") = true)
    (df_check_task : tpa_check_task ≠ tpa_parts_of)
    (df_ends_overlap : tpa_ends_overlap ≠ tpa_parts_of)
    {kk_ZERO : Addr} {kd_ZERO : Option Addr} {ksl_ZERO : Array (Option Value)} {kn_ZERO : Nat} {kt_ZERO_0 kt_ZERO_1 : Tok}
    (ka_ZERO : PySem.W.nsIn K mainGlobals "ZERO" = some (some (.ref kk_ZERO))) (kl_ZERO : K.lookup kk_ZERO = some ⟨.type "tuple", kd_ZERO, .seq #[.int (0) kt_ZERO_0, .int (1) kt_ZERO_1] kn_ZERO, ksl_ZERO⟩)
    {kk_ONE : Addr} {kd_ONE : Option Addr} {ksl_ONE : Array (Option Value)} {kn_ONE : Nat} {kt_ONE_0 kt_ONE_1 : Tok}
    (ka_ONE : PySem.W.nsIn K mainGlobals "ONE" = some (some (.ref kk_ONE))) (kl_ONE : K.lookup kk_ONE = some ⟨.type "tuple", kd_ONE, .seq #[.int (1) kt_ONE_0, .int (1) kt_ONE_1] kn_ONE, ksl_ONE⟩)
    {kt_FLIGHT_LIMIT : Tok} (ka_FLIGHT_LIMIT : PySem.W.nsIn K mainGlobals "FLIGHT_LIMIT" = some (some (.int 1000000 kt_FLIGHT_LIMIT)))
    {kt_COORDINATE_LIMIT : Tok} (ka_COORDINATE_LIMIT : PySem.W.nsIn K mainGlobals "COORDINATE_LIMIT" = some (some (.int 60 kt_COORDINATE_LIMIT)))
    {kt_LINE_LIMIT : Tok} (ka_LINE_LIMIT : PySem.W.nsIn K mainGlobals "LINE_LIMIT" = some (some (.int 1000 kt_LINE_LIMIT)))
    {kt_BODY_LIMIT : Tok} (ka_BODY_LIMIT : PySem.W.nsIn K mainGlobals "BODY_LIMIT" = some (some (.int 24 kt_BODY_LIMIT)))
    {kt_JOINT_LIMIT : Tok} (ka_JOINT_LIMIT : PySem.W.nsIn K mainGlobals "JOINT_LIMIT" = some (some (.int 24 kt_JOINT_LIMIT)))
    {kt_MASS_LIMIT : Tok} (ka_MASS_LIMIT : PySem.W.nsIn K mainGlobals "MASS_LIMIT" = some (some (.int 1000 kt_MASS_LIMIT)))
    {kt_NAME_LIMIT : Tok} (ka_NAME_LIMIT : PySem.W.nsIn K mainGlobals "NAME_LIMIT" = some (some (.int 999999999 kt_NAME_LIMIT)))
    {kk_GRIP_LIMIT : Addr} {kd_GRIP_LIMIT : Option Addr} {ksl_GRIP_LIMIT : Array (Option Value)} {kn_GRIP_LIMIT : Nat} {kt_GRIP_LIMIT_0 kt_GRIP_LIMIT_1 : Tok}
    (ka_GRIP_LIMIT : PySem.W.nsIn K mainGlobals "GRIP_LIMIT" = some (some (.ref kk_GRIP_LIMIT))) (kl_GRIP_LIMIT : K.lookup kk_GRIP_LIMIT = some ⟨.type "tuple", kd_GRIP_LIMIT, .seq #[.int (4) kt_GRIP_LIMIT_0, .int (1) kt_GRIP_LIMIT_1] kn_GRIP_LIMIT, ksl_GRIP_LIMIT⟩)
    {kk_STANDING : Addr} {kd_STANDING : Option Addr} {ksl_STANDING : Array (Option Value)} {kn_STANDING : Nat}
    (ka_STANDING : PySem.W.nsIn K mainGlobals "STANDING" = some (some (.ref kk_STANDING)))
    {kk_STANDING_0 : Addr} {kd_STANDING_0 : Option Addr} {ksl_STANDING_0 : Array (Option Value)} {kn_STANDING_0 : Nat} {kt_STANDING_0_0 kt_STANDING_0_1 : Tok}
    {kk_STANDING_1 : Addr} {kd_STANDING_1 : Option Addr} {ksl_STANDING_1 : Array (Option Value)} {kn_STANDING_1 : Nat} {kt_STANDING_1_0 kt_STANDING_1_1 : Tok}
    (kl_STANDING : K.lookup kk_STANDING = some ⟨.type "tuple", kd_STANDING, .seq #[.ref kk_STANDING_0, .ref kk_STANDING_1] kn_STANDING, ksl_STANDING⟩)
    (kl_STANDING_0 : K.lookup kk_STANDING_0 = some ⟨.type "tuple", kd_STANDING_0, .seq #[.int (0) kt_STANDING_0_0, .int (1) kt_STANDING_0_1] kn_STANDING_0, ksl_STANDING_0⟩)
    (kl_STANDING_1 : K.lookup kk_STANDING_1 = some ⟨.type "tuple", kd_STANDING_1, .seq #[.int (0) kt_STANDING_1_0, .int (1) kt_STANDING_1_1] kn_STANDING_1, ksl_STANDING_1⟩)
    {kk_MINUS_ONE : Addr} {kd_MINUS_ONE : Option Addr} {ksl_MINUS_ONE : Array (Option Value)} {kn_MINUS_ONE : Nat} {kt_MINUS_ONE_0 kt_MINUS_ONE_1 : Tok}
    (ka_MINUS_ONE : PySem.W.nsIn K mainGlobals "MINUS_ONE" = some (some (.ref kk_MINUS_ONE))) (kl_MINUS_ONE : K.lookup kk_MINUS_ONE = some ⟨.type "tuple", kd_MINUS_ONE, .seq #[.int (-1) kt_MINUS_ONE_0, .int (1) kt_MINUS_ONE_1] kn_MINUS_ONE, ksl_MINUS_ONE⟩)
    (pg_Search : PySem.W.plainGet K CC_Search Str.empty = true) (hd_Search : PySem.W.hasDictIn K CC_Search = true) (po_Search : PySem.W.plainOver K CC_Search = true) (sa_Search : PySem.W.findIn K (.ref CC_Search) "__setattr__" = some (some (.builtin "object.__setattr__"))) (mk_Search : PySem.W.makesIn K CC_Search = true) (kc_Search : PySem.W.keepIn K (.ref CC_Search) = true)
    (na_Search_point : PySem.W.findIn K (.ref CC_Search) "point" = some none)
    (na_Search_scales : PySem.W.findIn K (.ref CC_Search) "scales" = some none)
    (na_Search_factors : PySem.W.findIn K (.ref CC_Search) "factors" = some none)
    (na_Search_edges : PySem.W.findIn K (.ref CC_Search) "edges" = some none)
    (na_Search_weights : PySem.W.findIn K (.ref CC_Search) "weights" = some none)
    (na_Search_groups : PySem.W.findIn K (.ref CC_Search) "groups" = some none)
    (na_Search_amounts : PySem.W.findIn K (.ref CC_Search) "amounts" = some none)
    {xx_ZeroDenominator xx_TooLarge xx_BodyError xx_OverlapError xx_JointError xx_PushError xx_RowError xx_TickError : Addr}
    (ea_ZeroDenominator : PySem.W.nsIn K mainGlobals "ZeroDenominator" = some (some (.ref xx_ZeroDenominator))) (ex_ZeroDenominator : PySem.W.excIn K xx_ZeroDenominator [.type "ValueError", .type "Exception", .type "BaseException", .type "object"] "ValueError.__new__" = true) (ek_ZeroDenominator : PySem.W.keepIn K (.ref xx_ZeroDenominator) = true) (eb_ZeroDenominator : PySem.W.subIn K (.ref xx_ZeroDenominator) (.type "BaseException") = some true) (et_ZeroDenominator : PySem.W.typeIn K (.ref xx_ZeroDenominator) = some (.type "type")) (eh_ZeroDenominator : PySem.W.hasDictIn K xx_ZeroDenominator = true)
    (ea_TooLarge : PySem.W.nsIn K mainGlobals "TooLarge" = some (some (.ref xx_TooLarge))) (ex_TooLarge : PySem.W.excIn K xx_TooLarge [.type "ValueError", .type "Exception", .type "BaseException", .type "object"] "ValueError.__new__" = true) (ek_TooLarge : PySem.W.keepIn K (.ref xx_TooLarge) = true) (eb_TooLarge : PySem.W.subIn K (.ref xx_TooLarge) (.type "BaseException") = some true) (et_TooLarge : PySem.W.typeIn K (.ref xx_TooLarge) = some (.type "type")) (eh_TooLarge : PySem.W.hasDictIn K xx_TooLarge = true)
    (ea_BodyError : PySem.W.nsIn K mainGlobals "BodyError" = some (some (.ref xx_BodyError))) (ex_BodyError : PySem.W.excIn K xx_BodyError [.type "ValueError", .type "Exception", .type "BaseException", .type "object"] "ValueError.__new__" = true) (ek_BodyError : PySem.W.keepIn K (.ref xx_BodyError) = true) (eb_BodyError : PySem.W.subIn K (.ref xx_BodyError) (.type "BaseException") = some true) (et_BodyError : PySem.W.typeIn K (.ref xx_BodyError) = some (.type "type")) (eh_BodyError : PySem.W.hasDictIn K xx_BodyError = true)
    (ea_OverlapError : PySem.W.nsIn K mainGlobals "OverlapError" = some (some (.ref xx_OverlapError))) (ex_OverlapError : PySem.W.excIn K xx_OverlapError [.type "ValueError", .type "Exception", .type "BaseException", .type "object"] "ValueError.__new__" = true) (ek_OverlapError : PySem.W.keepIn K (.ref xx_OverlapError) = true) (eb_OverlapError : PySem.W.subIn K (.ref xx_OverlapError) (.type "BaseException") = some true) (et_OverlapError : PySem.W.typeIn K (.ref xx_OverlapError) = some (.type "type")) (eh_OverlapError : PySem.W.hasDictIn K xx_OverlapError = true)
    (ea_JointError : PySem.W.nsIn K mainGlobals "JointError" = some (some (.ref xx_JointError))) (ex_JointError : PySem.W.excIn K xx_JointError [.type "ValueError", .type "Exception", .type "BaseException", .type "object"] "ValueError.__new__" = true) (ek_JointError : PySem.W.keepIn K (.ref xx_JointError) = true) (eb_JointError : PySem.W.subIn K (.ref xx_JointError) (.type "BaseException") = some true) (et_JointError : PySem.W.typeIn K (.ref xx_JointError) = some (.type "type")) (eh_JointError : PySem.W.hasDictIn K xx_JointError = true)
    (ea_PushError : PySem.W.nsIn K mainGlobals "PushError" = some (some (.ref xx_PushError))) (ex_PushError : PySem.W.excIn K xx_PushError [.type "ValueError", .type "Exception", .type "BaseException", .type "object"] "ValueError.__new__" = true) (ek_PushError : PySem.W.keepIn K (.ref xx_PushError) = true) (eb_PushError : PySem.W.subIn K (.ref xx_PushError) (.type "BaseException") = some true) (et_PushError : PySem.W.typeIn K (.ref xx_PushError) = some (.type "type")) (eh_PushError : PySem.W.hasDictIn K xx_PushError = true)
    (ea_RowError : PySem.W.nsIn K mainGlobals "RowError" = some (some (.ref xx_RowError))) (ex_RowError : PySem.W.excIn K xx_RowError [.type "ValueError", .type "Exception", .type "BaseException", .type "object"] "ValueError.__new__" = true) (ek_RowError : PySem.W.keepIn K (.ref xx_RowError) = true) (eb_RowError : PySem.W.subIn K (.ref xx_RowError) (.type "BaseException") = some true) (et_RowError : PySem.W.typeIn K (.ref xx_RowError) = some (.type "type")) (eh_RowError : PySem.W.hasDictIn K xx_RowError = true)
    (ea_TickError : PySem.W.nsIn K mainGlobals "TickError" = some (some (.ref xx_TickError))) (ex_TickError : PySem.W.excIn K xx_TickError [.type "ValueError", .type "Exception", .type "BaseException", .type "object"] "ValueError.__new__" = true) (ek_TickError : PySem.W.keepIn K (.ref xx_TickError) = true) (eb_TickError : PySem.W.subIn K (.ref xx_TickError) (.type "BaseException") = some true) (et_TickError : PySem.W.typeIn K (.ref xx_TickError) = some (.type "type")) (eh_TickError : PySem.W.hasDictIn K xx_TickError = true)
    (es_ZeroDenominator_ZeroDenominator : PySem.W.subIn K (.ref xx_ZeroDenominator) (.ref xx_ZeroDenominator) = some true)
    (es_TooLarge_TooLarge : PySem.W.subIn K (.ref xx_TooLarge) (.ref xx_TooLarge) = some true)
    (es_BodyError_BodyError : PySem.W.subIn K (.ref xx_BodyError) (.ref xx_BodyError) = some true)
    (es_OverlapError_OverlapError : PySem.W.subIn K (.ref xx_OverlapError) (.ref xx_OverlapError) = some true)
    (es_JointError_JointError : PySem.W.subIn K (.ref xx_JointError) (.ref xx_JointError) = some true)
    (es_PushError_PushError : PySem.W.subIn K (.ref xx_PushError) (.ref xx_PushError) = some true)
    (es_RowError_RowError : PySem.W.subIn K (.ref xx_RowError) (.ref xx_RowError) = some true)
    (es_TickError_TickError : PySem.W.subIn K (.ref xx_TickError) (.ref xx_TickError) = some true)
    (z_abs : PySem.W.nsIn K mainGlobals "abs" = some none)
    (z_all : PySem.W.nsIn K mainGlobals "all" = some none)
    (z_any : PySem.W.nsIn K mainGlobals "any" = some none)
    (z_dict : PySem.W.nsIn K mainGlobals "dict" = some none)
    (z_enumerate : PySem.W.nsIn K mainGlobals "enumerate" = some none)
    (z_int : PySem.W.nsIn K mainGlobals "int" = some none)
    (z_len : PySem.W.nsIn K mainGlobals "len" = some none)
    (z_list : PySem.W.nsIn K mainGlobals "list" = some none)
    (z_max : PySem.W.nsIn K mainGlobals "max" = some none)
    (z_min : PySem.W.nsIn K mainGlobals "min" = some none)
    (z_range : PySem.W.nsIn K mainGlobals "range" = some none)
    (z_sorted : PySem.W.nsIn K mainGlobals "sorted" = some none)
    (z_sum : PySem.W.nsIn K mainGlobals "sum" = some none)
    (z_tuple : PySem.W.nsIn K mainGlobals "tuple" = some none)
    (z_zip : PySem.W.nsIn K mainGlobals "zip" = some none)
    (z_gcd : PySem.W.nsIn K mainGlobals "gcd" = some (some (.builtin "math.gcd")))
    (z_lcm : PySem.W.nsIn K mainGlobals "lcm" = some (some (.builtin "math.lcm"))) :
    LamX.LawAtS PySem.Challenge.rw_steadybodies_k47_free_flights w K CX0 13 63 "script" mg fa h := by
  have tt_check_task := PL.tab_in a20 l20 ce_check_task u_check_task uw_check_task
  have tt_ends_overlap := PL.tab_in a31 l31 ce_ends_overlap u_ends_overlap uw_ends_overlap
  have tt_parts_of := PL.tab_in a54 l54 ce_parts_of u_parts_of uw_parts_of
  have e := hfa.symm.trans (PySem.W.mg_of X G a77)
  have e : fa = f77 := by cases e; rfl
  have F0 := fun_mk (st := s_fraction) l0 c0 k0
  have b0 := F0.binds (ps := ["numerator", "denominator"]) fun _ _ _ _ _ _ us hl => match us, hl with | [_, _], _ => rfl
  have F1 := fun_mk (st := s_plus) l1 c1 k1
  have b1 := F1.binds (ps := ["a", "b"]) fun _ _ _ _ _ _ us hl => match us, hl with | [_, _], _ => rfl
  have F2 := fun_mk (st := s_minus) l2 c2 k2
  have b2 := F2.binds (ps := ["a", "b"]) fun _ _ _ _ _ _ us hl => match us, hl with | [_, _], _ => rfl
  have F3 := fun_mk (st := s_times) l3 c3 k3
  have b3 := F3.binds (ps := ["a", "b"]) fun _ _ _ _ _ _ us hl => match us, hl with | [_, _], _ => rfl
  have F4 := fun_mk (st := s_over) l4 c4 k4
  have b4 := F4.binds (ps := ["a", "b"]) fun _ _ _ _ _ _ us hl => match us, hl with | [_, _], _ => rfl
  have F5 := fun_mk (st := s_compare) l5 c5 k5
  have b5 := F5.binds (ps := ["a", "b"]) fun _ _ _ _ _ _ us hl => match us, hl with | [_, _], _ => rfl
  have F6 := fun_mk (st := s_least) l6 c6 k6
  have b6 := F6.binds (ps := ["items"]) fun _ _ _ _ _ _ us hl => match us, hl with | [_], _ => rfl
  have F7 := fun_mk (st := s_greatest) l7 c7 k7
  have b7 := F7.binds (ps := ["items"]) fun _ _ _ _ _ _ us hl => match us, hl with | [_], _ => rfl
  have F8 := fun_mk (st := s_common_denominator) l8 c8 k8
  have b8 := F8.binds (ps := ["items"]) fun _ _ _ _ _ _ us hl => match us, hl with | [_], _ => rfl
  have F9 := fun_mk (st := s_add) l9 c9 k9
  have b9 := F9.binds (ps := ["a", "b"]) fun _ _ _ _ _ _ us hl => match us, hl with | [_, _], _ => rfl
  have F10 := fun_mk (st := s_scale) l10 c10 k10
  have b10 := F10.binds (ps := ["a", "factor"]) fun _ _ _ _ _ _ us hl => match us, hl with | [_, _], _ => rfl
  have F11 := fun_mk (st := s_flight) l11 c11 k11
  have b11 := F11.binds (ps := ["place", "speed", "pull", "n"]) fun _ _ _ _ _ _ us hl => match us, hl with | [_, _, _, _], _ => rfl
  have F12 := fun_mk (st := s_crossing_tick) l12 c12 k12
  have b12 := F12.binds (ps := ["place", "speed", "pull", "line", "most"]) fun _ _ _ _ _ _ us hl => match us, hl with | [_, _, _, _, _], _ => rfl
  have F13 := fun_mk (st := s_whole_numbers) l13 c13 k13
  have b13 := F13.binds (ps := ["items"]) fun _ _ _ _ _ _ us hl => match us, hl with | [_], _ => rfl
  have F14 := fun_mk (st := s_height_after) l14 c14 k14
  have b14 := F14.binds (ps := ["start", "speed", "pull", "n"]) fun _ _ _ _ _ _ us hl => match us, hl with | [_, _, _, _], _ => rfl
  have F15 := fun_mk (st := s_last_fall) l15 c15 k15
  have b15 := F15.binds (ps := ["speed", "pull", "most"]) fun _ _ _ _ _ _ us hl => match us, hl with | [_, _, _], _ => rfl
  have F16 := fun_mk (st := s_ticks_before_turn) l16 c16 k16
  have b16 := F16.binds (ps := ["speed", "brake"]) fun _ _ _ _ _ _ us hl => match us, hl with | [_, _], _ => rfl
  have F17 := fun_mk (st := s_first_below) l17 c17 k17
  have b17 := F17.binds (ps := ["start", "speed", "pull", "last"]) fun _ _ _ _ _ _ us hl => match us, hl with | [_, _, _, _], _ => rfl
  have F18 := fun_mk (st := s_highest_tick) l18 c18 k18
  have b18 := F18.binds (ps := ["speed", "pull"]) fun _ _ _ _ _ _ us hl => match us, hl with | [_, _], _ => rfl
  have F19 := fun_mk (st := s_nearest) l19 c19 k19
  have b19 := F19.binds (ps := ["weights", "wishes", "lines"]) fun _ _ _ _ _ _ us hl => match us, hl with | [_, _, _], _ => rfl
  have F20 := PL.funC_mk (st := s_check_task) l20 (PL.code_eq a20 l20 tt_check_task) c20 k20
  have b20 := F20.of.binds (ps := ["weights", "wishes", "lines"]) fun _ _ _ _ _ _ us hl => match us, hl with | [_, _, _], _ => rfl
  have F21 := fun_mk (st := s_check_parts) l21 c21 k21
  have b21 := F21.binds (ps := ["parts", "count"]) fun _ _ _ _ _ _ us hl => match us, hl with | [_, _], _ => rfl
  have F22 := fun_mk (st := s_Search_init) l22 c22 k22
  have b22 := F22.binds (ps := ["self", "weights", "wishes", "lines"]) fun _ _ _ _ _ _ us hl => match us, hl with | [_, _, _, _], _ => rfl
  have F23 := fun_mk (st := s_Search_worst_line) l23 c23 k23
  have b23 := F23.binds (ps := ["self"]) fun _ _ _ _ _ _ us hl => match us, hl with | [_], _ => rfl
  have F24 := fun_mk (st := s_Search_raise_line) l24 c24 k24
  have b24 := F24.binds (ps := ["self", "line"]) fun _ _ _ _ _ _ us hl => match us, hl with | [_, _], _ => rfl
  have F25 := fun_mk (st := s_Search_forces) l25 c25 k25
  have b25 := F25.binds (ps := ["self"]) fun _ _ _ _ _ _ us hl => match us, hl with | [_], _ => rfl
  have F26 := fun_mk (st := s_scale_of) l26 c26 k26
  have b26 := F26.binds (ps := ["parts"]) fun _ _ _ _ _ _ us hl => match us, hl with | [_], _ => rfl
  have F27 := fun_mk (st := s_whole_factors) l27 c27 k27
  have b27 := F27.binds (ps := ["parts", "scale"]) fun _ _ _ _ _ _ us hl => match us, hl with | [_, _], _ => rfl
  have F28 := fun_mk (st := s_is_sized) l28 c28 k28
  have b28 := F28.binds (ps := ["size"]) fun _ _ _ _ _ _ us hl => match us, hl with | [_], _ => rfl
  have F29 := fun_mk (st := s_ends_of) l29 c29 k29
  have b29 := F29.binds (ps := ["box"]) fun _ _ _ _ _ _ us hl => match us, hl with | [_], _ => rfl
  have F30 := fun_mk (st := s_gap_of_ends) l30 c30 k30
  have b30 := F30.binds (ps := ["one", "other"]) fun _ _ _ _ _ _ us hl => match us, hl with | [_, _], _ => rfl
  have F31 := PL.funC_mk (st := s_ends_overlap) l31 (PL.code_eq a31 l31 tt_ends_overlap) c31 k31
  have b31 := F31.of.binds (ps := ["one", "other"]) fun _ _ _ _ _ _ us hl => match us, hl with | [_, _], _ => rfl
  have F32 := fun_mk (st := s_check_state) l32 c32 k32
  have b32 := F32.binds (ps := ["state"]) fun _ _ _ _ _ _ us hl => match us, hl with | [_], _ => rfl
  have F33 := fun_mk (st := s_check_bodies) l33 c33 k33
  have b33 := F33.binds (ps := ["bodies"]) fun _ _ _ _ _ _ us hl => match us, hl with | [_], _ => rfl
  have F34 := fun_mk (st := s_is_body_sound) l34 c34 k34
  have b34 := F34.binds (ps := ["body"]) fun _ _ _ _ _ _ us hl => match us, hl with | [_], _ => rfl
  have F35 := fun_mk (st := s_check_overlaps) l35 c35 k35
  have b35 := F35.binds (ps := ["bodies"]) fun _ _ _ _ _ _ us hl => match us, hl with | [_], _ => rfl
  have F36 := fun_mk (st := s_check_joint) l36 c36 k36
  have b36 := F36.binds (ps := ["places", "joint"]) fun _ _ _ _ _ _ us hl => match us, hl with | [_, _], _ => rfl
  have F37 := fun_mk (st := s_joint_way) l37 c37 k37
  have b37 := F37.binds (ps := ["places", "joint"]) fun _ _ _ _ _ _ us hl => match us, hl with | [_, _], _ => rfl
  have F38 := fun_mk (st := s_is_moving) l38 c38 k38
  have b38 := F38.binds (ps := ["body"]) fun _ _ _ _ _ _ us hl => match us, hl with | [_], _ => rfl
  have F39 := fun_mk (st := s_are_moving_names) l39 c39 k39
  have b39 := F39.binds (ps := ["bodies", "names"]) fun _ _ _ _ _ _ us hl => match us, hl with | [_, _], _ => rfl
  have F40 := fun_mk (st := s_box_of_body) l40 c40 k40
  have b40 := F40.binds (ps := ["body"]) fun _ _ _ _ _ _ us hl => match us, hl with | [_], _ => rfl
  have F41 := fun_mk (st := s_places_of) l41 c41 k41
  have b41 := F41.binds (ps := ["bodies"]) fun _ _ _ _ _ _ us hl => match us, hl with | [_], _ => rfl
  have F42 := fun_mk (st := s_check_pushes) l42 c42 k42
  have b42 := F42.binds (ps := ["state", "pushes"]) fun _ _ _ _ _ _ us hl => match us, hl with | [_, _], _ => rfl
  have F43 := fun_mk (st := s_check_pushed) l43 c43 k43
  have b43 := F43.binds (ps := ["state", "pushes"]) fun _ _ _ _ _ _ us hl => match us, hl with | [_, _], _ => rfl
  have F44 := fun_mk (st := s_plain_rows) l44 c44 k44
  have b44 := F44.binds (ps := ["state", "pushes"]) fun _ _ _ _ _ _ us hl => match us, hl with | [_, _], _ => rfl
  have F45 := fun_mk (st := s_full_rows) l45 c45 k45
  have b45 := F45.binds (ps := ["state", "pushes"]) fun _ _ _ _ _ _ us hl => match us, hl with | [_, _], _ => rfl
  have F46 := fun_mk (st := s_items_of) l46 c46 k46
  have b46 := F46.binds (ps := ["state", "pushes"]) fun _ _ _ _ _ _ us hl => match us, hl with | [_, _], _ => rfl
  have F47 := fun_mk (st := s_free_speed) l47 c47 k47
  have b47 := F47.binds (ps := ["body", "pull", "push"]) fun _ _ _ _ _ _ us hl => match us, hl with | [_, _, _], _ => rfl
  have F48 := fun_mk (st := s_pairs_of) l48 c48 k48
  have b48 := F48.binds (ps := ["items"]) fun _ _ _ _ _ _ us hl => match us, hl with | [_], _ => rfl
  have F49 := fun_mk (st := s_gap_of_items) l49 c49 k49
  have b49 := F49.binds (ps := ["one", "other", "axis"]) fun _ _ _ _ _ _ us hl => match us, hl with | [_, _, _], _ => rfl
  have F50 := fun_mk (st := s_in_line) l50 c50 k50
  have b50 := F50.binds (ps := ["one", "other", "axis"]) fun _ _ _ _ _ _ us hl => match us, hl with | [_, _, _], _ => rfl
  have F51 := fun_mk (st := s_end_gap) l51 c51 k51
  have b51 := F51.binds (ps := ["one", "other", "axis"]) fun _ _ _ _ _ _ us hl => match us, hl with | [_, _, _], _ => rfl
  have F52 := fun_mk (st := s_axis_of_items) l52 c52 k52
  have b52 := F52.binds (ps := ["one", "other"]) fun _ _ _ _ _ _ us hl => match us, hl with | [_, _], _ => rfl
  have F53 := fun_mk (st := s_rows_of_items) l53 c53 k53
  have b53 := F53.binds (ps := ["one", "other"]) fun _ _ _ _ _ _ us hl => match us, hl with | [_, _], _ => rfl
  have F54 := PL.funC_mk (st := s_parts_of) l54 (PL.code_eq a54 l54 tt_parts_of) c54 k54
  have b54 := F54.of.binds (ps := ["terms"]) fun _ _ _ _ _ _ us hl => match us, hl with | [_], _ => rfl
  have F55 := fun_mk (st := s_rows_of_joints) l55 c55 k55
  have b55 := F55.binds (ps := ["state"]) fun _ _ _ _ _ _ us hl => match us, hl with | [_], _ => rfl
  have F56 := fun_mk (st := s_spots_of) l56 c56 k56
  have b56 := F56.binds (ps := ["state"]) fun _ _ _ _ _ _ us hl => match us, hl with | [_], _ => rfl
  have F57 := fun_mk (st := s_task_of) l57 c57 k57
  have b57 := F57.binds (ps := ["state", "pushes", "rows"]) fun _ _ _ _ _ _ us hl => match us, hl with | [_, _, _], _ => rfl
  have F58 := fun_mk (st := s_lines_of_rows) l58 c58 k58
  have b58 := F58.binds (ps := ["state", "rows"]) fun _ _ _ _ _ _ us hl => match us, hl with | [_, _], _ => rfl
  have F59 := fun_mk (st := s_settle) l59 c59 k59
  have b59 := F59.binds (ps := ["state", "pushes"]) fun _ _ _ _ _ _ us hl => match us, hl with | [_, _], _ => rfl
  have F60 := fun_mk (st := s_speeds_at) l60 c60 k60
  have b60 := F60.binds (ps := ["state", "point"]) fun _ _ _ _ _ _ us hl => match us, hl with | [_, _], _ => rfl
  have F61 := fun_mk (st := s_tick) l61 c61 k61
  have b61 := F61.binds (ps := ["state", "pushes"]) fun _ _ _ _ _ _ us hl => match us, hl with | [_, _], _ => rfl
  have F62 := fun_mk (st := s_ticked) l62 c62 k62
  have b62 := F62.binds (ps := ["state", "pushes"]) fun _ _ _ _ _ _ us hl => match us, hl with | [_, _], _ => rfl
  have F63 := fun_mk (st := s_with_speeds) l63 c63 k63
  have b63 := F63.binds (ps := ["state", "speeds"]) fun _ _ _ _ _ _ us hl => match us, hl with | [_, _], _ => rfl
  have F64 := fun_mk (st := s_law_begin) l64 c64 k64
  have b64 := F64.binds (ps := ["script"]) fun _ _ _ _ _ _ us hl => match us, hl with | [_], _ => rfl
  have F65 := fun_mk (st := s_law_take) l65 c65 k65
  have b65 := F65.binds (ps := ["d", "many"]) fun _ _ _ _ _ _ us hl => match us, hl with | [_, _], _ => rfl
  have F66 := fun_mk (st := s_law_signed) l66 c66 k66
  have b66 := F66.binds (ps := ["d", "most"]) fun _ _ _ _ _ _ us hl => match us, hl with | [_, _], _ => rfl
  have F67 := fun_mk (st := s_law_gcd) l67 c67 k67
  have b67 := F67.binds (ps := ["a", "b"]) fun _ _ _ _ _ _ us hl => match us, hl with | [_, _], _ => rfl
  have F68 := fun_mk (st := s_law_f) l68 c68 k68
  have b68 := F68.binds (ps := ["a", "b"]) fun _ _ _ _ _ _ us hl => match us, hl with | [_, _], _ => rfl
  have F69 := fun_mk (st := s_law_plus) l69 c69 k69
  have b69 := F69.binds (ps := ["a", "b"]) fun _ _ _ _ _ _ us hl => match us, hl with | [_, _], _ => rfl
  have F70 := fun_mk (st := s_law_minus) l70 c70 k70
  have b70 := F70.binds (ps := ["a", "b"]) fun _ _ _ _ _ _ us hl => match us, hl with | [_, _], _ => rfl
  have F71 := fun_mk (st := s_law_less) l71 c71 k71
  have b71 := F71.binds (ps := ["a", "b"]) fun _ _ _ _ _ _ us hl => match us, hl with | [_, _], _ => rfl
  have F72 := fun_mk (st := s_law_part) l72 c72 k72
  have b72 := F72.binds (ps := ["d", "most"]) fun _ _ _ _ _ _ us hl => match us, hl with | [_, _], _ => rfl
  have F73 := fun_mk (st := s_law_vector) l73 c73 k73
  have b73 := F73.binds (ps := ["d", "most"]) fun _ _ _ _ _ _ us hl => match us, hl with | [_, _], _ => rfl
  have F74 := fun_mk (st := s_law_told) l74 c74 k74
  have b74 := F74.binds (ps := ["which", "a", "b", "c", "line", "n"]) fun _ _ _ _ _ _ us hl => match us, hl with | [_, _, _, _, _, _], _ => rfl
  have F75 := fun_mk (st := s_law_walk) l75 c75 k75
  have b75 := F75.binds (ps := ["place", "speed", "pull", "n"]) fun _ _ _ _ _ _ us hl => match us, hl with | [_, _, _, _], _ => rfl
  have F76 := fun_mk (st := s_law_cross) l76 c76 k76
  have b76 := F76.binds (ps := ["rows", "line"]) fun _ _ _ _ _ _ us hl => match us, hl with | [_, _], _ => rfl
  have F77 := fun_mk (st := s_law) l77 c77 k77
  have b77 := F77.binds (ps := ["script"]) fun _ _ _ _ _ _ us hl => match us, hl with | [_], _ => rfl
  have y_check_task := htab "check_task" _ _ tr_check_task tt_check_task
  have y_ends_overlap := htab "ends_overlap" _ _ tr_ends_overlap tt_ends_overlap
  have y_parts_of := htab "parts_of" _ _ tr_parts_of tt_parts_of
  letI : PL.Nm := ⟨fun _ => ("parts_of" : Str) ++ (".<locals>." : Str) ++ ("<lambda>" : Str)⟩
  refine ⟨PySem.W.fnOf "law" "law" (defArgs s_law) (defBody s_law) (defScope s_law) .none kV77 dc77 pm77 an77 cd77 ct77, [(tca_check_task, tpa_check_task), (tca_ends_overlap, tpa_ends_overlap), (tca_parts_of, tpa_parts_of)], spLawT K ⟨[tpa_check_task, tpa_ends_overlap], [tpa_parts_of]⟩, ?_, ?_, ?_, fun s v => .of_eq rfl, fun H a ns hl hb hH hS => ⟨a, ns, rfl, hS, hl, PL.start_tabs hS ?_ ?_, fun _ => rfl⟩, fun base _ _ hTB => ?_⟩
  · intro p hp
    simp only [List.mem_cons, List.not_mem_nil, or_false] at hp
    rcases hp with rfl | rfl | rfl
    · exact y_check_task.2
    · exact y_ends_overlap.2
    · exact y_parts_of.2
  · intro p hp
    simp only [List.mem_cons, List.not_mem_nil, or_false] at hp
    rcases hp with rfl | rfl | rfl
    · exact tn_check_task
    · exact tn_ends_overlap
    · exact tn_parts_of
  · intro p hp
    simp only [List.mem_cons, List.not_mem_nil, or_false] at hp
    rcases hp with rfl | rfl | rfl
    · exact y_check_task.1
    · exact y_ends_overlap.1
    · exact y_parts_of.1
  · intro p hp
    simp only [List.mem_cons, List.not_mem_nil, or_false] at hp
    rcases hp with hp | hp
    · exact ⟨#[], by rw [hp]; exact hH (tca_check_task, tpa_check_task) List.mem_cons_self, True.intro, fun hz => df_check_task (by rw [← hp]; exact List.mem_singleton.mp hz)⟩
    · exact ⟨#[], by rw [hp]; exact hH (tca_ends_overlap, tpa_ends_overlap) (List.mem_cons_of_mem _ List.mem_cons_self), True.intro, fun hz => df_ends_overlap (by rw [← hp]; exact List.mem_singleton.mp hz)⟩
  · intro p hp
    simp only [List.mem_cons, List.not_mem_nil, or_false] at hp
    rcases hp with hp
    · rw [hp]; exact hH (tca_parts_of, tpa_parts_of) (List.mem_cons_of_mem _ (List.mem_cons_of_mem _ List.mem_cons_self))
  let Tp : Top K mg base := {
    f_fraction := f0, d_fraction := _, F_fraction := F0, g_fraction := PySem.W.mg_of X G a0, b_fraction := b0,
    f_plus := f1, d_plus := _, F_plus := F1, g_plus := PySem.W.mg_of X G a1, b_plus := b1,
    f_minus := f2, d_minus := _, F_minus := F2, g_minus := PySem.W.mg_of X G a2, b_minus := b2,
    f_times := f3, d_times := _, F_times := F3, g_times := PySem.W.mg_of X G a3, b_times := b3,
    f_over := f4, d_over := _, F_over := F4, g_over := PySem.W.mg_of X G a4, b_over := b4,
    f_compare := f5, d_compare := _, F_compare := F5, g_compare := PySem.W.mg_of X G a5, b_compare := b5,
    f_least := f6, d_least := _, F_least := F6, g_least := PySem.W.mg_of X G a6, b_least := b6,
    f_greatest := f7, d_greatest := _, F_greatest := F7, g_greatest := PySem.W.mg_of X G a7, b_greatest := b7,
    f_common_denominator := f8, d_common_denominator := _, F_common_denominator := F8, g_common_denominator := PySem.W.mg_of X G a8, b_common_denominator := b8,
    f_add := f9, d_add := _, F_add := F9, g_add := PySem.W.mg_of X G a9, b_add := b9,
    f_scale := f10, d_scale := _, F_scale := F10, g_scale := PySem.W.mg_of X G a10, b_scale := b10,
    f_flight := f11, d_flight := _, F_flight := F11, g_flight := PySem.W.mg_of X G a11, b_flight := b11,
    f_crossing_tick := f12, d_crossing_tick := _, F_crossing_tick := F12, g_crossing_tick := PySem.W.mg_of X G a12, b_crossing_tick := b12,
    f_whole_numbers := f13, d_whole_numbers := _, F_whole_numbers := F13, g_whole_numbers := PySem.W.mg_of X G a13, b_whole_numbers := b13,
    f_height_after := f14, d_height_after := _, F_height_after := F14, g_height_after := PySem.W.mg_of X G a14, b_height_after := b14,
    f_last_fall := f15, d_last_fall := _, F_last_fall := F15, g_last_fall := PySem.W.mg_of X G a15, b_last_fall := b15,
    f_ticks_before_turn := f16, d_ticks_before_turn := _, F_ticks_before_turn := F16, g_ticks_before_turn := PySem.W.mg_of X G a16, b_ticks_before_turn := b16,
    f_first_below := f17, d_first_below := _, F_first_below := F17, g_first_below := PySem.W.mg_of X G a17, b_first_below := b17,
    f_highest_tick := f18, d_highest_tick := _, F_highest_tick := F18, g_highest_tick := PySem.W.mg_of X G a18, b_highest_tick := b18,
    f_nearest := f19, d_nearest := _, F_nearest := F19, g_nearest := PySem.W.mg_of X G a19, b_nearest := b19,
    tc_check_task := tca_check_task, tp_check_task := tpa_check_task, tb_check_task := ⟨(hTB _ List.mem_cons_self).code, (hTB _ List.mem_cons_self).bm, (hTB _ List.mem_cons_self).gP⟩,
    f_check_task := f20, d_check_task := _, F_check_task := F20, g_check_task := PySem.W.mg_of X G a20, b_check_task := b20,
    f_check_parts := f21, d_check_parts := _, F_check_parts := F21, g_check_parts := PySem.W.mg_of X G a21, b_check_parts := b21,
    f_Search_init := f22, d_Search_init := _, F_Search_init := F22, b_Search_init := b22,
    f_Search_worst_line := f23, d_Search_worst_line := _, F_Search_worst_line := F23, b_Search_worst_line := b23,
    f_Search_raise_line := f24, d_Search_raise_line := _, F_Search_raise_line := F24, b_Search_raise_line := b24,
    f_Search_forces := f25, d_Search_forces := _, F_Search_forces := F25, b_Search_forces := b25,
    f_scale_of := f26, d_scale_of := _, F_scale_of := F26, g_scale_of := PySem.W.mg_of X G a26, b_scale_of := b26,
    f_whole_factors := f27, d_whole_factors := _, F_whole_factors := F27, g_whole_factors := PySem.W.mg_of X G a27, b_whole_factors := b27,
    f_is_sized := f28, d_is_sized := _, F_is_sized := F28, g_is_sized := PySem.W.mg_of X G a28, b_is_sized := b28,
    f_ends_of := f29, d_ends_of := _, F_ends_of := F29, g_ends_of := PySem.W.mg_of X G a29, b_ends_of := b29,
    f_gap_of_ends := f30, d_gap_of_ends := _, F_gap_of_ends := F30, g_gap_of_ends := PySem.W.mg_of X G a30, b_gap_of_ends := b30,
    tc_ends_overlap := tca_ends_overlap, tp_ends_overlap := tpa_ends_overlap, tb_ends_overlap := ⟨(hTB _ (List.mem_cons_of_mem _ List.mem_cons_self)).code, (hTB _ (List.mem_cons_of_mem _ List.mem_cons_self)).bm, (hTB _ (List.mem_cons_of_mem _ List.mem_cons_self)).gP⟩,
    f_ends_overlap := f31, d_ends_overlap := _, F_ends_overlap := F31, g_ends_overlap := PySem.W.mg_of X G a31, b_ends_overlap := b31,
    f_check_state := f32, d_check_state := _, F_check_state := F32, g_check_state := PySem.W.mg_of X G a32, b_check_state := b32,
    f_check_bodies := f33, d_check_bodies := _, F_check_bodies := F33, g_check_bodies := PySem.W.mg_of X G a33, b_check_bodies := b33,
    f_is_body_sound := f34, d_is_body_sound := _, F_is_body_sound := F34, g_is_body_sound := PySem.W.mg_of X G a34, b_is_body_sound := b34,
    f_check_overlaps := f35, d_check_overlaps := _, F_check_overlaps := F35, g_check_overlaps := PySem.W.mg_of X G a35, b_check_overlaps := b35,
    f_check_joint := f36, d_check_joint := _, F_check_joint := F36, g_check_joint := PySem.W.mg_of X G a36, b_check_joint := b36,
    f_joint_way := f37, d_joint_way := _, F_joint_way := F37, g_joint_way := PySem.W.mg_of X G a37, b_joint_way := b37,
    f_is_moving := f38, d_is_moving := _, F_is_moving := F38, g_is_moving := PySem.W.mg_of X G a38, b_is_moving := b38,
    f_are_moving_names := f39, d_are_moving_names := _, F_are_moving_names := F39, g_are_moving_names := PySem.W.mg_of X G a39, b_are_moving_names := b39,
    f_box_of_body := f40, d_box_of_body := _, F_box_of_body := F40, g_box_of_body := PySem.W.mg_of X G a40, b_box_of_body := b40,
    f_places_of := f41, d_places_of := _, F_places_of := F41, g_places_of := PySem.W.mg_of X G a41, b_places_of := b41,
    f_check_pushes := f42, d_check_pushes := _, F_check_pushes := F42, g_check_pushes := PySem.W.mg_of X G a42, b_check_pushes := b42,
    f_check_pushed := f43, d_check_pushed := _, F_check_pushed := F43, g_check_pushed := PySem.W.mg_of X G a43, b_check_pushed := b43,
    f_plain_rows := f44, d_plain_rows := _, F_plain_rows := F44, g_plain_rows := PySem.W.mg_of X G a44, b_plain_rows := b44,
    f_full_rows := f45, d_full_rows := _, F_full_rows := F45, g_full_rows := PySem.W.mg_of X G a45, b_full_rows := b45,
    f_items_of := f46, d_items_of := _, F_items_of := F46, g_items_of := PySem.W.mg_of X G a46, b_items_of := b46,
    f_free_speed := f47, d_free_speed := _, F_free_speed := F47, g_free_speed := PySem.W.mg_of X G a47, b_free_speed := b47,
    f_pairs_of := f48, d_pairs_of := _, F_pairs_of := F48, g_pairs_of := PySem.W.mg_of X G a48, b_pairs_of := b48,
    f_gap_of_items := f49, d_gap_of_items := _, F_gap_of_items := F49, g_gap_of_items := PySem.W.mg_of X G a49, b_gap_of_items := b49,
    f_in_line := f50, d_in_line := _, F_in_line := F50, g_in_line := PySem.W.mg_of X G a50, b_in_line := b50,
    f_end_gap := f51, d_end_gap := _, F_end_gap := F51, g_end_gap := PySem.W.mg_of X G a51, b_end_gap := b51,
    f_axis_of_items := f52, d_axis_of_items := _, F_axis_of_items := F52, g_axis_of_items := PySem.W.mg_of X G a52, b_axis_of_items := b52,
    f_rows_of_items := f53, d_rows_of_items := _, F_rows_of_items := F53, g_rows_of_items := PySem.W.mg_of X G a53, b_rows_of_items := b53,
    tc_parts_of := tca_parts_of, tp_parts_of := tpa_parts_of, tb_parts_of := ⟨(hTB _ (List.mem_cons_of_mem _ (List.mem_cons_of_mem _ List.mem_cons_self))).code, (hTB _ (List.mem_cons_of_mem _ (List.mem_cons_of_mem _ List.mem_cons_self))).bm, (hTB _ (List.mem_cons_of_mem _ (List.mem_cons_of_mem _ List.mem_cons_self))).gP⟩, ln_parts_of := rfl,
    f_parts_of := f54, d_parts_of := _, F_parts_of := F54, g_parts_of := PySem.W.mg_of X G a54, b_parts_of := b54,
    f_rows_of_joints := f55, d_rows_of_joints := _, F_rows_of_joints := F55, g_rows_of_joints := PySem.W.mg_of X G a55, b_rows_of_joints := b55,
    f_spots_of := f56, d_spots_of := _, F_spots_of := F56, g_spots_of := PySem.W.mg_of X G a56, b_spots_of := b56,
    f_task_of := f57, d_task_of := _, F_task_of := F57, g_task_of := PySem.W.mg_of X G a57, b_task_of := b57,
    f_lines_of_rows := f58, d_lines_of_rows := _, F_lines_of_rows := F58, g_lines_of_rows := PySem.W.mg_of X G a58, b_lines_of_rows := b58,
    f_settle := f59, d_settle := _, F_settle := F59, g_settle := PySem.W.mg_of X G a59, b_settle := b59,
    f_speeds_at := f60, d_speeds_at := _, F_speeds_at := F60, g_speeds_at := PySem.W.mg_of X G a60, b_speeds_at := b60,
    f_tick := f61, d_tick := _, F_tick := F61, g_tick := PySem.W.mg_of X G a61, b_tick := b61,
    f_ticked := f62, d_ticked := _, F_ticked := F62, g_ticked := PySem.W.mg_of X G a62, b_ticked := b62,
    f_with_speeds := f63, d_with_speeds := _, F_with_speeds := F63, g_with_speeds := PySem.W.mg_of X G a63, b_with_speeds := b63,
    f_law_begin := f64, d_law_begin := _, F_law_begin := F64, g_law_begin := PySem.W.mg_of X G a64, b_law_begin := b64,
    f_law_take := f65, d_law_take := _, F_law_take := F65, g_law_take := PySem.W.mg_of X G a65, b_law_take := b65,
    f_law_signed := f66, d_law_signed := _, F_law_signed := F66, g_law_signed := PySem.W.mg_of X G a66, b_law_signed := b66,
    f_law_gcd := f67, d_law_gcd := _, F_law_gcd := F67, g_law_gcd := PySem.W.mg_of X G a67, b_law_gcd := b67,
    f_law_f := f68, d_law_f := _, F_law_f := F68, g_law_f := PySem.W.mg_of X G a68, b_law_f := b68,
    f_law_plus := f69, d_law_plus := _, F_law_plus := F69, g_law_plus := PySem.W.mg_of X G a69, b_law_plus := b69,
    f_law_minus := f70, d_law_minus := _, F_law_minus := F70, g_law_minus := PySem.W.mg_of X G a70, b_law_minus := b70,
    f_law_less := f71, d_law_less := _, F_law_less := F71, g_law_less := PySem.W.mg_of X G a71, b_law_less := b71,
    f_law_part := f72, d_law_part := _, F_law_part := F72, g_law_part := PySem.W.mg_of X G a72, b_law_part := b72,
    f_law_vector := f73, d_law_vector := _, F_law_vector := F73, g_law_vector := PySem.W.mg_of X G a73, b_law_vector := b73,
    f_law_told := f74, d_law_told := _, F_law_told := F74, g_law_told := PySem.W.mg_of X G a74, b_law_told := b74,
    f_law_walk := f75, d_law_walk := _, F_law_walk := F75, g_law_walk := PySem.W.mg_of X G a75, b_law_walk := b75,
    f_law_cross := f76, d_law_cross := _, F_law_cross := F76, g_law_cross := PySem.W.mg_of X G a76, b_law_cross := b76,
    f_law := f77, d_law := _, F_law := F77, g_law := PySem.W.mg_of X G a77, b_law := b77,
    C_Search := CC_Search, gC_Search := PySem.W.mg_of X G aC_Search, cl_Search := ⟨pg_Search, hd_Search, po_Search, sa_Search⟩, mk_Search := ⟨mk_Search, a22, i22, kc_Search⟩, na_Search_point := na_Search_point, na_Search_scales := na_Search_scales, na_Search_factors := na_Search_factors, na_Search_edges := na_Search_edges, na_Search_weights := na_Search_weights, na_Search_groups := na_Search_groups, na_Search_amounts := na_Search_amounts, me_Search_worst_line := ⟨a23, i23, k23⟩, me_Search_raise_line := ⟨a24, i24, k24⟩, me_Search_forces := ⟨a25, i25, k25⟩,
    k_ZERO := kk_ZERO, gk_ZERO := PySem.W.mg_of X G ka_ZERO, dk_ZERO := const_t kl_ZERO rfl rfl (show 2 ≤ 100 by decide) (.cons ⟨_, rfl⟩ (.cons ⟨_, rfl⟩ .nil)),
    k_ONE := kk_ONE, gk_ONE := PySem.W.mg_of X G ka_ONE, dk_ONE := const_t kl_ONE rfl rfl (show 2 ≤ 100 by decide) (.cons ⟨_, rfl⟩ (.cons ⟨_, rfl⟩ .nil)),
    t_FLIGHT_LIMIT := kt_FLIGHT_LIMIT, gk_FLIGHT_LIMIT := PySem.W.mg_of X G ka_FLIGHT_LIMIT,
    t_COORDINATE_LIMIT := kt_COORDINATE_LIMIT, gk_COORDINATE_LIMIT := PySem.W.mg_of X G ka_COORDINATE_LIMIT,
    t_LINE_LIMIT := kt_LINE_LIMIT, gk_LINE_LIMIT := PySem.W.mg_of X G ka_LINE_LIMIT,
    t_BODY_LIMIT := kt_BODY_LIMIT, gk_BODY_LIMIT := PySem.W.mg_of X G ka_BODY_LIMIT,
    t_JOINT_LIMIT := kt_JOINT_LIMIT, gk_JOINT_LIMIT := PySem.W.mg_of X G ka_JOINT_LIMIT,
    t_MASS_LIMIT := kt_MASS_LIMIT, gk_MASS_LIMIT := PySem.W.mg_of X G ka_MASS_LIMIT,
    t_NAME_LIMIT := kt_NAME_LIMIT, gk_NAME_LIMIT := PySem.W.mg_of X G ka_NAME_LIMIT,
    k_GRIP_LIMIT := kk_GRIP_LIMIT, gk_GRIP_LIMIT := PySem.W.mg_of X G ka_GRIP_LIMIT, dk_GRIP_LIMIT := const_t kl_GRIP_LIMIT rfl rfl (show 2 ≤ 100 by decide) (.cons ⟨_, rfl⟩ (.cons ⟨_, rfl⟩ .nil)),
    k_STANDING := kk_STANDING, gk_STANDING := PySem.W.mg_of X G ka_STANDING, dk_STANDING := fun G => .tup (const_t (xs := [V.ref kk_STANDING_0, V.ref kk_STANDING_1]) kl_STANDING rfl rfl (show 2 ≤ 100 by decide) (.cons rfl (.cons rfl .nil)) G) (.cons (.tup (const_t (xs := [V.int (0), V.int (1)]) kl_STANDING_0 rfl rfl (show 2 ≤ 100 by decide) (.cons ⟨_, rfl⟩ (.cons ⟨_, rfl⟩ .nil)) G) (.cons (.int (0)) (.cons (.int (1)) .nil))) (.cons (.tup (const_t (xs := [V.int (0), V.int (1)]) kl_STANDING_1 rfl rfl (show 2 ≤ 100 by decide) (.cons ⟨_, rfl⟩ (.cons ⟨_, rfl⟩ .nil)) G) (.cons (.int (0)) (.cons (.int (1)) .nil))) .nil)),
    k_MINUS_ONE := kk_MINUS_ONE, gk_MINUS_ONE := PySem.W.mg_of X G ka_MINUS_ONE, dk_MINUS_ONE := const_t kl_MINUS_ONE rfl rfl (show 2 ≤ 100 by decide) (.cons ⟨_, rfl⟩ (.cons ⟨_, rfl⟩ .nil)),
    c_ZeroDenominator := xx_ZeroDenominator, gc_ZeroDenominator := PySem.W.mg_of X G ea_ZeroDenominator, xc_ZeroDenominator := ex_ZeroDenominator, kc_ZeroDenominator := ek_ZeroDenominator, bc_ZeroDenominator := eb_ZeroDenominator, tc_ZeroDenominator := et_ZeroDenominator, hc_ZeroDenominator := eh_ZeroDenominator,
    c_TooLarge := xx_TooLarge, gc_TooLarge := PySem.W.mg_of X G ea_TooLarge, xc_TooLarge := ex_TooLarge, kc_TooLarge := ek_TooLarge, bc_TooLarge := eb_TooLarge, tc_TooLarge := et_TooLarge, hc_TooLarge := eh_TooLarge,
    c_BodyError := xx_BodyError, gc_BodyError := PySem.W.mg_of X G ea_BodyError, xc_BodyError := ex_BodyError, kc_BodyError := ek_BodyError, bc_BodyError := eb_BodyError, tc_BodyError := et_BodyError, hc_BodyError := eh_BodyError,
    c_OverlapError := xx_OverlapError, gc_OverlapError := PySem.W.mg_of X G ea_OverlapError, xc_OverlapError := ex_OverlapError, kc_OverlapError := ek_OverlapError, bc_OverlapError := eb_OverlapError, tc_OverlapError := et_OverlapError, hc_OverlapError := eh_OverlapError,
    c_JointError := xx_JointError, gc_JointError := PySem.W.mg_of X G ea_JointError, xc_JointError := ex_JointError, kc_JointError := ek_JointError, bc_JointError := eb_JointError, tc_JointError := et_JointError, hc_JointError := eh_JointError,
    c_PushError := xx_PushError, gc_PushError := PySem.W.mg_of X G ea_PushError, xc_PushError := ex_PushError, kc_PushError := ek_PushError, bc_PushError := eb_PushError, tc_PushError := et_PushError, hc_PushError := eh_PushError,
    c_RowError := xx_RowError, gc_RowError := PySem.W.mg_of X G ea_RowError, xc_RowError := ex_RowError, kc_RowError := ek_RowError, bc_RowError := eb_RowError, tc_RowError := et_RowError, hc_RowError := eh_RowError,
    c_TickError := xx_TickError, gc_TickError := PySem.W.mg_of X G ea_TickError, xc_TickError := ex_TickError, kc_TickError := ek_TickError, bc_TickError := eb_TickError, tc_TickError := et_TickError, hc_TickError := eh_TickError,
    ac_ZeroDenominator_ZeroDenominator := es_ZeroDenominator_ZeroDenominator,
    ac_TooLarge_TooLarge := es_TooLarge_TooLarge,
    ac_BodyError_BodyError := es_BodyError_BodyError,
    ac_OverlapError_OverlapError := es_OverlapError_OverlapError,
    ac_JointError_JointError := es_JointError_JointError,
    ac_PushError_PushError := es_PushError_PushError,
    ac_RowError_RowError := es_RowError_RowError,
    ac_TickError_TickError := es_TickError_TickError,
    n_abs := PySem.W.mg_none_of X G z_abs, n_all := PySem.W.mg_none_of X G z_all, n_any := PySem.W.mg_none_of X G z_any, n_dict := PySem.W.mg_none_of X G z_dict, n_enumerate := PySem.W.mg_none_of X G z_enumerate, n_int := PySem.W.mg_none_of X G z_int, n_len := PySem.W.mg_none_of X G z_len, n_list := PySem.W.mg_none_of X G z_list, n_max := PySem.W.mg_none_of X G z_max, n_min := PySem.W.mg_none_of X G z_min, n_range := PySem.W.mg_none_of X G z_range, n_sorted := PySem.W.mg_none_of X G z_sorted, n_sum := PySem.W.mg_none_of X G z_sum, n_tuple := PySem.W.mg_none_of X G z_tuple, n_zip := PySem.W.mg_none_of X G z_zip, n_gcd := PySem.W.mg_of X G z_gcd, n_lcm := PySem.W.mg_of X G z_lcm }
  rw [e]
  exact fok_law (P := PySem.Challenge.rw_steadybodies_k47_free_flights.prog) (w := w) (base := base) Tp
end W
open PySem PySem.W PyProof.Rows
set_option maxHeartbeats 0 in
theorem PySem.Challenge.cw_steadybodies_k47_free_flights_holds : PySem.Challenge.rw_steadybodies_k47_free_flights.Holds := by
  w_on; o_law; k_head; (case hw => w_witness2)
  k_fill
  letI : PL.Nm := ⟨fun _ => ""⟩
  refine PL.walk_ofG (l := PySem.Challenge.rw_steadybodies_k47_free_flights) (n := 63) (k := 13) (x := "script") (CX := fun _ => L2.CX0) rfl (by decide) rfl ⟨rfl, by decide, by decide⟩ (fun w h Y => PySem.W.km_in_of Y) ?F (fun _ _ _ _ _ h => h)
  case F =>
    intro w mg fa h KX G hmg htab
    refine' W.all_mk KX G hmg htab ?aC_Search ?a0 ?l0 ?c0 ?k0 ?a1 ?l1 ?c1 ?k1 ?a2 ?l2 ?c2 ?k2 ?a3 ?l3 ?c3 ?k3 ?a4 ?l4 ?c4 ?k4 ?a5 ?l5 ?c5 ?k5 ?a6 ?l6 ?c6 ?k6 ?a7 ?l7 ?c7 ?k7 ?a8 ?l8 ?c8 ?k8 ?a9 ?l9 ?c9 ?k9 ?a10 ?l10 ?c10 ?k10 ?a11 ?l11 ?c11 ?k11 ?a12 ?l12 ?c12 ?k12 ?a13 ?l13 ?c13 ?k13 ?a14 ?l14 ?c14 ?k14 ?a15 ?l15 ?c15 ?k15 ?a16 ?l16 ?c16 ?k16 ?a17 ?l17 ?c17 ?k17 ?a18 ?l18 ?c18 ?k18 ?a19 ?l19 ?c19 ?k19 ?a20 ?l20 ?c20 ?k20 ?a21 ?l21 ?c21 ?k21 ?a22 ?i22 ?l22 ?c22 ?k22 ?a23 ?i23 ?l23 ?c23 ?k23 ?a24 ?i24 ?l24 ?c24 ?k24 ?a25 ?i25 ?l25 ?c25 ?k25 ?a26 ?l26 ?c26 ?k26 ?a27 ?l27 ?c27 ?k27 ?a28 ?l28 ?c28 ?k28 ?a29 ?l29 ?c29 ?k29 ?a30 ?l30 ?c30 ?k30 ?a31 ?l31 ?c31 ?k31 ?a32 ?l32 ?c32 ?k32 ?a33 ?l33 ?c33 ?k33 ?a34 ?l34 ?c34 ?k34 ?a35 ?l35 ?c35 ?k35 ?a36 ?l36 ?c36 ?k36 ?a37 ?l37 ?c37 ?k37 ?a38 ?l38 ?c38 ?k38 ?a39 ?l39 ?c39 ?k39 ?a40 ?l40 ?c40 ?k40 ?a41 ?l41 ?c41 ?k41 ?a42 ?l42 ?c42 ?k42 ?a43 ?l43 ?c43 ?k43 ?a44 ?l44 ?c44 ?k44 ?a45 ?l45 ?c45 ?k45 ?a46 ?l46 ?c46 ?k46 ?a47 ?l47 ?c47 ?k47 ?a48 ?l48 ?c48 ?k48 ?a49 ?l49 ?c49 ?k49 ?a50 ?l50 ?c50 ?k50 ?a51 ?l51 ?c51 ?k51 ?a52 ?l52 ?c52 ?k52 ?a53 ?l53 ?c53 ?k53 ?a54 ?l54 ?c54 ?k54 ?a55 ?l55 ?c55 ?k55 ?a56 ?l56 ?c56 ?k56 ?a57 ?l57 ?c57 ?k57 ?a58 ?l58 ?c58 ?k58 ?a59 ?l59 ?c59 ?k59 ?a60 ?l60 ?c60 ?k60 ?a61 ?l61 ?c61 ?k61 ?a62 ?l62 ?c62 ?k62 ?a63 ?l63 ?c63 ?k63 ?a64 ?l64 ?c64 ?k64 ?a65 ?l65 ?c65 ?k65 ?a66 ?l66 ?c66 ?k66 ?a67 ?l67 ?c67 ?k67 ?a68 ?l68 ?c68 ?k68 ?a69 ?l69 ?c69 ?k69 ?a70 ?l70 ?c70 ?k70 ?a71 ?l71 ?c71 ?k71 ?a72 ?l72 ?c72 ?k72 ?a73 ?l73 ?c73 ?k73 ?a74 ?l74 ?c74 ?k74 ?a75 ?l75 ?c75 ?k75 ?a76 ?l76 ?c76 ?k76 ?a77 ?l77 ?c77 ?k77 ?ce_check_task ?u_check_task ?uw_check_task ?tn_check_task ?tr_check_task ?ce_ends_overlap ?u_ends_overlap ?uw_ends_overlap ?tn_ends_overlap ?tr_ends_overlap ?ce_parts_of ?u_parts_of ?uw_parts_of ?tn_parts_of ?tr_parts_of ?df_check_task ?df_ends_overlap ?ka_ZERO ?kl_ZERO ?ka_ONE ?kl_ONE ?ka_FLIGHT_LIMIT ?ka_COORDINATE_LIMIT ?ka_LINE_LIMIT ?ka_BODY_LIMIT ?ka_JOINT_LIMIT ?ka_MASS_LIMIT ?ka_NAME_LIMIT ?ka_GRIP_LIMIT ?kl_GRIP_LIMIT ?ka_STANDING ?kl_STANDING ?kl_STANDING_0 ?kl_STANDING_1 ?ka_MINUS_ONE ?kl_MINUS_ONE ?pg_Search ?hd_Search ?po_Search ?sa_Search ?mk_Search ?kc_Search ?na_Search_point ?na_Search_scales ?na_Search_factors ?na_Search_edges ?na_Search_weights ?na_Search_groups ?na_Search_amounts ?ea_ZeroDenominator ?ex_ZeroDenominator ?ek_ZeroDenominator ?eb_ZeroDenominator ?et_ZeroDenominator ?eh_ZeroDenominator ?ea_TooLarge ?ex_TooLarge ?ek_TooLarge ?eb_TooLarge ?et_TooLarge ?eh_TooLarge ?ea_BodyError ?ex_BodyError ?ek_BodyError ?eb_BodyError ?et_BodyError ?eh_BodyError ?ea_OverlapError ?ex_OverlapError ?ek_OverlapError ?eb_OverlapError ?et_OverlapError ?eh_OverlapError ?ea_JointError ?ex_JointError ?ek_JointError ?eb_JointError ?et_JointError ?eh_JointError ?ea_PushError ?ex_PushError ?ek_PushError ?eb_PushError ?et_PushError ?eh_PushError ?ea_RowError ?ex_RowError ?ek_RowError ?eb_RowError ?et_RowError ?eh_RowError ?ea_TickError ?ex_TickError ?ek_TickError ?eb_TickError ?et_TickError ?eh_TickError ?es_ZeroDenominator_ZeroDenominator ?es_TooLarge_TooLarge ?es_BodyError_BodyError ?es_OverlapError_OverlapError ?es_JointError_JointError ?es_PushError_PushError ?es_RowError_RowError ?es_TickError_TickError ?z_abs ?z_all ?z_any ?z_dict ?z_enumerate ?z_int ?z_len ?z_list ?z_max ?z_min ?z_range ?z_sorted ?z_sum ?z_tuple ?z_zip ?z_gcd ?z_lcm
    (case aC_Search => k_is); (case a0 => k_is); (case l0 => k_is); (case c0 => k_is); (case k0 => k_is); (case a1 => k_is); (case l1 => k_is); (case c1 => k_is); (case k1 => k_is); (case a2 => k_is); (case l2 => k_is); (case c2 => k_is); (case k2 => k_is); (case a3 => k_is); (case l3 => k_is); (case c3 => k_is); (case k3 => k_is); (case a4 => k_is); (case l4 => k_is); (case c4 => k_is); (case k4 => k_is); (case a5 => k_is); (case l5 => k_is); (case c5 => k_is); (case k5 => k_is); (case a6 => k_is); (case l6 => k_is); (case c6 => k_is); (case k6 => k_is); (case a7 => k_is); (case l7 => k_is); (case c7 => k_is); (case k7 => k_is); (case a8 => k_is); (case l8 => k_is); (case c8 => k_is); (case k8 => k_is); (case a9 => k_is); (case l9 => k_is); (case c9 => k_is); (case k9 => k_is); (case a10 => k_is); (case l10 => k_is); (case c10 => k_is); (case k10 => k_is); (case a11 => k_is); (case l11 => k_is); (case c11 => k_is); (case k11 => k_is); (case a12 => k_is); (case l12 => k_is); (case c12 => k_is); (case k12 => k_is); (case a13 => k_is); (case l13 => k_is); (case c13 => k_is); (case k13 => k_is); (case a14 => k_is); (case l14 => k_is); (case c14 => k_is); (case k14 => k_is); (case a15 => k_is); (case l15 => k_is); (case c15 => k_is); (case k15 => k_is); (case a16 => k_is); (case l16 => k_is); (case c16 => k_is); (case k16 => k_is); (case a17 => k_is); (case l17 => k_is); (case c17 => k_is); (case k17 => k_is); (case a18 => k_is); (case l18 => k_is); (case c18 => k_is); (case k18 => k_is); (case a19 => k_is); (case l19 => k_is); (case c19 => k_is); (case k19 => k_is); (case a20 => k_is); (case l20 => k_is); (case c20 => k_is); (case k20 => k_is); (case a21 => k_is); (case l21 => k_is); (case c21 => k_is); (case k21 => k_is); (case a22 => k_is); (case i22 => k_is); (case l22 => k_is); (case c22 => k_is); (case k22 => k_is); (case a23 => k_is); (case i23 => k_is); (case l23 => k_is); (case c23 => k_is); (case k23 => k_is); (case a24 => k_is); (case i24 => k_is); (case l24 => k_is); (case c24 => k_is); (case k24 => k_is); (case a25 => k_is); (case i25 => k_is); (case l25 => k_is); (case c25 => k_is); (case k25 => k_is); (case a26 => k_is); (case l26 => k_is); (case c26 => k_is); (case k26 => k_is); (case a27 => k_is); (case l27 => k_is); (case c27 => k_is); (case k27 => k_is); (case a28 => k_is); (case l28 => k_is); (case c28 => k_is); (case k28 => k_is); (case a29 => k_is); (case l29 => k_is); (case c29 => k_is); (case k29 => k_is); (case a30 => k_is); (case l30 => k_is); (case c30 => k_is); (case k30 => k_is); (case a31 => k_is); (case l31 => k_is); (case c31 => k_is); (case k31 => k_is); (case a32 => k_is); (case l32 => k_is); (case c32 => k_is); (case k32 => k_is); (case a33 => k_is); (case l33 => k_is); (case c33 => k_is); (case k33 => k_is); (case a34 => k_is); (case l34 => k_is); (case c34 => k_is); (case k34 => k_is); (case a35 => k_is); (case l35 => k_is); (case c35 => k_is); (case k35 => k_is); (case a36 => k_is); (case l36 => k_is); (case c36 => k_is); (case k36 => k_is); (case a37 => k_is); (case l37 => k_is); (case c37 => k_is); (case k37 => k_is); (case a38 => k_is); (case l38 => k_is); (case c38 => k_is); (case k38 => k_is); (case a39 => k_is); (case l39 => k_is); (case c39 => k_is); (case k39 => k_is); (case a40 => k_is); (case l40 => k_is); (case c40 => k_is); (case k40 => k_is); (case a41 => k_is); (case l41 => k_is); (case c41 => k_is); (case k41 => k_is); (case a42 => k_is); (case l42 => k_is); (case c42 => k_is); (case k42 => k_is); (case a43 => k_is); (case l43 => k_is); (case c43 => k_is); (case k43 => k_is); (case a44 => k_is); (case l44 => k_is); (case c44 => k_is); (case k44 => k_is); (case a45 => k_is); (case l45 => k_is); (case c45 => k_is); (case k45 => k_is); (case a46 => k_is); (case l46 => k_is); (case c46 => k_is); (case k46 => k_is); (case a47 => k_is); (case l47 => k_is); (case c47 => k_is); (case k47 => k_is); (case a48 => k_is); (case l48 => k_is); (case c48 => k_is); (case k48 => k_is); (case a49 => k_is); (case l49 => k_is); (case c49 => k_is); (case k49 => k_is); (case a50 => k_is); (case l50 => k_is); (case c50 => k_is); (case k50 => k_is); (case a51 => k_is); (case l51 => k_is); (case c51 => k_is); (case k51 => k_is); (case a52 => k_is); (case l52 => k_is); (case c52 => k_is); (case k52 => k_is); (case a53 => k_is); (case l53 => k_is); (case c53 => k_is); (case k53 => k_is); (case a54 => k_is); (case l54 => k_is); (case c54 => k_is); (case k54 => k_is); (case a55 => k_is); (case l55 => k_is); (case c55 => k_is); (case k55 => k_is); (case a56 => k_is); (case l56 => k_is); (case c56 => k_is); (case k56 => k_is); (case a57 => k_is); (case l57 => k_is); (case c57 => k_is); (case k57 => k_is); (case a58 => k_is); (case l58 => k_is); (case c58 => k_is); (case k58 => k_is); (case a59 => k_is); (case l59 => k_is); (case c59 => k_is); (case k59 => k_is); (case a60 => k_is); (case l60 => k_is); (case c60 => k_is); (case k60 => k_is); (case a61 => k_is); (case l61 => k_is); (case c61 => k_is); (case k61 => k_is); (case a62 => k_is); (case l62 => k_is); (case c62 => k_is); (case k62 => k_is); (case a63 => k_is); (case l63 => k_is); (case c63 => k_is); (case k63 => k_is); (case a64 => k_is); (case l64 => k_is); (case c64 => k_is); (case k64 => k_is); (case a65 => k_is); (case l65 => k_is); (case c65 => k_is); (case k65 => k_is); (case a66 => k_is); (case l66 => k_is); (case c66 => k_is); (case k66 => k_is); (case a67 => k_is); (case l67 => k_is); (case c67 => k_is); (case k67 => k_is); (case a68 => k_is); (case l68 => k_is); (case c68 => k_is); (case k68 => k_is); (case a69 => k_is); (case l69 => k_is); (case c69 => k_is); (case k69 => k_is); (case a70 => k_is); (case l70 => k_is); (case c70 => k_is); (case k70 => k_is); (case a71 => k_is); (case l71 => k_is); (case c71 => k_is); (case k71 => k_is); (case a72 => k_is); (case l72 => k_is); (case c72 => k_is); (case k72 => k_is); (case a73 => k_is); (case l73 => k_is); (case c73 => k_is); (case k73 => k_is); (case a74 => k_is); (case l74 => k_is); (case c74 => k_is); (case k74 => k_is); (case a75 => k_is); (case l75 => k_is); (case c75 => k_is); (case k75 => k_is); (case a76 => k_is); (case l76 => k_is); (case c76 => k_is); (case k76 => k_is); (case a77 => k_is); (case l77 => k_is); (case c77 => k_is); (case k77 => k_is); (case ce_check_task => rfl); (case u_check_task => k_is); (case uw_check_task => rfl); (case tn_check_task => kernel_rfl); (case tr_check_task => decide +kernel); (case ce_ends_overlap => rfl); (case u_ends_overlap => k_is); (case uw_ends_overlap => rfl); (case tn_ends_overlap => kernel_rfl); (case tr_ends_overlap => decide +kernel); (case ce_parts_of => rfl); (case u_parts_of => k_is); (case uw_parts_of => rfl); (case tn_parts_of => kernel_rfl); (case tr_parts_of => decide +kernel); (case df_check_task => decide); (case df_ends_overlap => decide); (case ka_ZERO => k_is); (case kl_ZERO => k_is); (case ka_ONE => k_is); (case kl_ONE => k_is); (case ka_FLIGHT_LIMIT => k_is); (case ka_COORDINATE_LIMIT => k_is); (case ka_LINE_LIMIT => k_is); (case ka_BODY_LIMIT => k_is); (case ka_JOINT_LIMIT => k_is); (case ka_MASS_LIMIT => k_is); (case ka_NAME_LIMIT => k_is); (case ka_GRIP_LIMIT => k_is); (case kl_GRIP_LIMIT => k_is); (case ka_STANDING => k_is); (case kl_STANDING => k_is); (case kl_STANDING_0 => k_is); (case kl_STANDING_1 => k_is); (case ka_MINUS_ONE => k_is); (case kl_MINUS_ONE => k_is); (case pg_Search => k_is); (case hd_Search => k_is); (case po_Search => k_is); (case sa_Search => k_is); (case mk_Search => k_is); (case kc_Search => k_is); (case na_Search_point => k_is); (case na_Search_scales => k_is); (case na_Search_factors => k_is); (case na_Search_edges => k_is); (case na_Search_weights => k_is); (case na_Search_groups => k_is); (case na_Search_amounts => k_is); (case ea_ZeroDenominator => k_is); (case ex_ZeroDenominator => k_exc); (case ek_ZeroDenominator => k_is); (case eb_ZeroDenominator => k_is); (case et_ZeroDenominator => k_is); (case eh_ZeroDenominator => k_is); (case ea_TooLarge => k_is); (case ex_TooLarge => k_exc); (case ek_TooLarge => k_is); (case eb_TooLarge => k_is); (case et_TooLarge => k_is); (case eh_TooLarge => k_is); (case ea_BodyError => k_is); (case ex_BodyError => k_exc); (case ek_BodyError => k_is); (case eb_BodyError => k_is); (case et_BodyError => k_is); (case eh_BodyError => k_is); (case ea_OverlapError => k_is); (case ex_OverlapError => k_exc); (case ek_OverlapError => k_is); (case eb_OverlapError => k_is); (case et_OverlapError => k_is); (case eh_OverlapError => k_is); (case ea_JointError => k_is); (case ex_JointError => k_exc); (case ek_JointError => k_is); (case eb_JointError => k_is); (case et_JointError => k_is); (case eh_JointError => k_is); (case ea_PushError => k_is); (case ex_PushError => k_exc); (case ek_PushError => k_is); (case eb_PushError => k_is); (case et_PushError => k_is); (case eh_PushError => k_is); (case ea_RowError => k_is); (case ex_RowError => k_exc); (case ek_RowError => k_is); (case eb_RowError => k_is); (case et_RowError => k_is); (case eh_RowError => k_is); (case ea_TickError => k_is); (case ex_TickError => k_exc); (case ek_TickError => k_is); (case eb_TickError => k_is); (case et_TickError => k_is); (case eh_TickError => k_is); (case es_ZeroDenominator_ZeroDenominator => k_is); (case es_TooLarge_TooLarge => k_is); (case es_BodyError_BodyError => k_is); (case es_OverlapError_OverlapError => k_is); (case es_JointError_JointError => k_is); (case es_PushError_PushError => k_is); (case es_RowError_RowError => k_is); (case es_TickError_TickError => k_is); (case z_abs => k_is); (case z_all => k_is); (case z_any => k_is); (case z_dict => k_is); (case z_enumerate => k_is); (case z_int => k_is); (case z_len => k_is); (case z_list => k_is); (case z_max => k_is); (case z_min => k_is); (case z_range => k_is); (case z_sorted => k_is); (case z_sum => k_is); (case z_tuple => k_is); (case z_zip => k_is); (case z_gcd => k_is); (case z_lcm => k_is)
