import PyProof.Rows.All
import Wide.All
import OpenK.AllK
import Wide.FinOn
import PySem.Challenge.RW_steadybodies_k38_trees_and_broad_phases
import HandS.ForMost
import HandS.ForExc
import HandS.Wide
import HandS.Gcd
import HandS.IsInst
import HandS.ExcIs
import HandS.Deep
import HandS.Zip
import KE.GoesNew
import HandS.GenList
import KE.KDictZip
import KE.KTurns
import HandS.EndTab
import HandS.AnyAll
import HandS.HotCalls
import HandS.TupAny
import HandS.TupMul
import HandS.DictComp
import HandS.SortRule
import HandS.Sort
import KE.KDictPairs
import KE.KEqDict
import HandS.DictTup
import HandS.TryOnly
import HandS.Lambda
import KE.SortKeyHeap
import HandS.ForMost
import HandS.ForExc
import HandS.Wide
import HandS.Gcd
import HandS.Iter
import HandS.Walk
import HandS.Comp
import KE.GoesComp
import HandS.Strs
import HandS.Style
import HandS.MapJoin
import PyProof.CollectIter
import HandS.Text
import KE.KIntText
import PyProof.Rows.Digits
import HandS.StrMore
import HandS.WideBits
import HandS.SetFor
import PyProof.StrLawsIn
import HandS.SetBool
import HandS.TupSets
import KE.KDictList
import HandS.Conv
import HandS.Star
import HandS.WordsDict
import HandS.Dict
import KE.KeyNested
import HandS.More
import HandS.Property
import PyProof.AutoSeq1
import HandS.SortInts
import KE.KNestM
import PyProof.Rows.MinMaxN
import KE.KMinKey
import PyProof.Rows.SeqMore
set_option Elab.async false
set_option linter.all false
set_option maxRecDepth 100000
set_option maxHeartbeats 4000000
set_option exponentiation.threshold 10000
/-! A layer over the hand layer: big steps over data. -/
namespace PL
open PySem PySem.Spec PyProof.Rows L2
/-- the names of the lambdas that tables of code objects tell of -/
class Nm where
  nm : Addr → Str
/-- tables of code objects: of generators, of lambdas -/
structure Tbs where
  gs : List Addr
  ls : List Addr
/-- a value as data, or the address of an object that may change -/
inductive Dat where
  | d (x : PyData)
  | r (a : Addr)
  | l (ds : List PyData)
  | k (kvs : List (Key × PyData))
  | u (xs : List PyData)
  | p (φ : Hp → V → Prop)
abbrev Dat.i (n : Int) : Dat := .d (.int n)
abbrev Dat.b (b : Bool) : Dat := .d (.bool b)
abbrev Dat.t (xs : List PyData) : Dat := .d (.tuple xs)
/-- o stands where it stood; a code object's table may have grown -/
def Kpt (o : HO) (x : Option HO) : Prop := match o with
  | .tbl ps => ∃ qs : Array Value, x = some (.tbl qs) ∧ (TriplesOk ps.toList → TriplesOk qs.toList)
  | o => x = some o
theorem Kpt.of {o : HO} {x : Option HO} (h : x = some o) : Kpt o x := by
  cases o with
  | tbl ps => exact ⟨ps, h, id⟩
  | _ => exact h
theorem Kpt.some {o : HO} {x : Option HO} (h : Kpt o x) : ∃ u, x = some u ∧ ((∀ ps, o ≠ .tbl ps) → u = o) := by
  cases o with
  | tbl ps =>
    obtain ⟨qs, e, _⟩ := h
    exact ⟨_, e, fun z => (z ps rfl).elim⟩
  | _ => exact ⟨_, h, fun _ => rfl⟩
theorem Kpt.trans {o : HO} {x y : Option HO} (h : Kpt o x) (g : ∀ u, x = Option.some u → Kpt u y) : Kpt o y := by
  cases o with
  | tbl ps =>
    obtain ⟨qs, e, t⟩ := h
    obtain ⟨rs, e2, t2⟩ := g _ e
    exact ⟨rs, e2, fun z => t2 (t z)⟩
  | _ => exact g _ h
def Same (H H' : Hp) : Prop := ∀ b o, H b = some o → Kpt o (H' b)
theorem Same.refl (H : Hp) : Same H H := fun _ _ h => .of h
theorem Same.trans {H H1 H2 : Hp} (a : Same H H1) (b : Same H1 H2) : Same H H2 := fun c o h => (a c o h).trans fun u e => b c u e
theorem Same.free {H H' : Hp} (e : Same H H') {l : Addr} (h : H' l = none) : H l = none := by
  cases z : H l with
  | none => rfl
  | some o =>
    obtain ⟨u, hu, _⟩ := (e l o z).some
    rw [h] at hu
    cases hu
theorem Same.seq {K : PySem.W.Frag} {H H' : Hp} {a : Addr} {xs : List V} (e : Same H H') (h : SqL K H a xs) : SqL K H' a xs := by
  rcases h with (h | ⟨o, h⟩) | h
  · exact .inl (.inl (e _ _ h))
  · exact .inl (.inr ⟨o, e _ _ h⟩)
  · exact .inr h
section
variable {K : PySem.W.Frag} {G H G1 H1 G2 H2 H' : Hp}
theorem same_new {p : Addr} {o : HO} (h : H p = none) : Same H (upd H p o) := fun a u e => by
  rw [upd_ne (ne_of_none e h)]
  exact .of e
theorem same_t {a : Addr} {xs : List V} (e : Same H H') (h : SqT K H a xs) : SqT K H' a xs := by
  rcases h with (h | ⟨o, h⟩) | h
  · exact .inl (.inl (e _ _ h))
  · exact .inl (.inr ⟨o, e _ _ h⟩)
  · exact .inr h
mutual
theorem dp_mono (e : Same H H') : ∀ (d : PyData) (v : V), Dp K H v d → Dp K H' v d
  | .none, _, h => by cases h; exact .non
  | .bool b, _, h => by cases h; exact .bl b
  | .int i, _, h => by cases h; exact .int i
  | .str x, _, h => by cases h; exact .str x
  | .list ds, _, h => by
    cases h with
    | lst a b => exact .lst (e.seq a) (dp_monos e ds _ b)
  | .tuple ds, _, h => by
    cases h with
    | tup a b => exact .tup (same_t e a) (dp_monos e ds _ b)
  | .dict _, _, h => by cases h
theorem dp_monos (e : Same H H') : ∀ (ds : List PyData) (vs : List V), DpAll K H vs ds → DpAll K H' vs ds
  | [], _, h => by cases h; exact .nil
  | d :: ds, _, h => by
    cases h with
    | cons a b => exact .cons (dp_mono e d _ a) (dp_monos e ds _ b)
end
theorem dpa_get : ∀ {vs : List V} {ds : List PyData} {i : Nat} {d : PyData}, DpAll K G vs ds → ds[i]? = some d → ∃ v, vs[i]? = some v ∧ Dp K G v d
  | _, _, _, _, .nil, e => by simp at e
  | _, _, 0, _, .cons a _, e => by
    simp at e
    subst e
    exact ⟨_, rfl, a⟩
  | _, _, i + 1, d, .cons _ b, e => by
    obtain ⟨v, h1, h2⟩ := dpa_get (i := i) (d := d) b (by simpa using e)
    exact ⟨v, by simpa using h1, h2⟩
theorem dpa_len : ∀ {vs : List V} {ds : List PyData}, DpAll K G vs ds → vs.length = ds.length
  | _, _, .nil => rfl
  | _, _, .cons _ b => by
    rw [List.length_cons, List.length_cons, dpa_len b]
theorem dpa_ints : ∀ (ns : List Int), DpAll K G (ns.map V.int) (ns.map PyData.int)
  | [] => .nil
  | n :: ns => .cons (.int n) (dpa_ints ns)
theorem dpa_app : ∀ {vs ws : List V} {ds es : List PyData}, DpAll K G vs ds → DpAll K G ws es → DpAll K G (vs ++ ws) (ds ++ es)
  | _, _, _, _, .nil, h => h
  | _, _, _, _, .cons a b, h => .cons a (dpa_app b h)
/-- a dict's items as data -/
def KvAll (K : PySem.W.Frag) (G : Hp) (vs : List (Key × V)) (kvs : List (Key × PyData)) : Prop := vs.map (·.1) = kvs.map (·.1) ∧ DpAll K G (vs.map (·.2)) (kvs.map (·.2))
def Dv (K : PySem.W.Frag) (G : Hp) (v : V) : Dat → Prop
  | .d x => Dp K G v x
  | .r a => v = .ref a
  | .l ds => ∃ a vs, v = .ref a ∧ G a = some (.lst vs) ∧ DpAll K G vs ds
  | .k kvs => ∃ a vs, v = .ref a ∧ G a = some (.dK vs) ∧ KvAll K G vs kvs
  | .u xs => ∃ a o vs, v = .ref a ∧ G a = some (.frz o (.tup vs)) ∧ o.dict = none ∧ DpAll K G vs xs
  | .p φ => ∃ G0, Same G0 G ∧ φ G0 v
theorem dv_mono {v : V} {d : Dat} (e : Same H H') (h : Dv K H v d) : Dv K H' v d := by
  cases d with
  | d x => exact dp_mono e x v h
  | r a => exact h
  | l ds =>
    obtain ⟨a, vs, h1, h2, h3⟩ := h
    exact ⟨a, vs, h1, e _ _ h2, dp_monos e ds vs h3⟩
  | k kvs =>
    obtain ⟨a, vs, h1, h2, h3⟩ := h
    exact ⟨a, vs, h1, e _ _ h2, h3.1, dp_monos e _ _ h3.2⟩
  | u xs =>
    obtain ⟨a, o, vs, h1, h2, h3, h4⟩ := h
    exact ⟨a, o, vs, h1, e _ _ h2, h3, dp_monos e _ _ h4⟩
  | p φ =>
    obtain ⟨G0, h1, h2⟩ := h
    exact ⟨G0, h1.trans e, h2⟩
def DvAll (K : PySem.W.Frag) (G : Hp) : List V → List Dat → Prop
  | [], [] => True
  | v :: vs, d :: ds => Dv K G v d ∧ DvAll K G vs ds
  | [], _ :: _ => False
  | _ :: _, [] => False
theorem dva_mono (e : Same H H') : ∀ {vs : List V} {ds : List Dat}, DvAll K H vs ds → DvAll K H' vs ds
  | [], [], _ => trivial
  | _ :: _, _ :: _, h => ⟨dv_mono e h.1, dva_mono e h.2⟩
  | [], _ :: _, h => h.elim
  | _ :: _, [], h => h.elim
theorem dva_len : ∀ {vs : List V} {ds : List Dat}, DvAll K H vs ds → vs.length = ds.length
  | [], [], _ => rfl
  | _ :: vs, _ :: ds, h => by
    rw [List.length_cons, List.length_cons, dva_len h.2]
  | [], _ :: _, h => h.elim
  | _ :: _, [], h => h.elim
theorem dva_dp : ∀ {vs : List V} {ds : List PyData}, DvAll K H vs (ds.map Dat.d) → DpAll K H vs ds
  | [], [], _ => .nil
  | _ :: _, _ :: _, h => .cons h.1 (dva_dp h.2)
  | [], _ :: _, h => h.elim
  | _ :: _, [], h => h.elim
def SlD (K : PySem.W.Frag) (G : Hp) (s : Option V) : Option Dat → Prop
  | none => True
  | some d => ∃ v, s = some v ∧ Dv K G v d
theorem sld_mono {s : Option V} {o : Option Dat} (e : Same H H') (h : SlD K H s o) : SlD K H' s o := by
  cases o with
  | none => trivial
  | some d =>
    obtain ⟨v, h1, h2⟩ := h
    exact ⟨v, h1, dv_mono e h2⟩
abbrev Rho := List (Option Dat)
def EnvD (K : PySem.W.Frag) (G : Hp) : List (Option V) → Rho → Prop
  | [], [] => True
  | s :: σ, o :: ρ => SlD K G s o ∧ EnvD K G σ ρ
  | [], _ :: _ => False
  | _ :: _, [] => False
theorem env_mono (e : Same H H') : ∀ {σ : List (Option V)} {ρ : Rho}, EnvD K H σ ρ → EnvD K H' σ ρ
  | [], [], _ => trivial
  | _ :: _, _ :: _, h => ⟨sld_mono e h.1, env_mono e h.2⟩
  | [], _ :: _, h => h.elim
  | _ :: _, [], h => h.elim
theorem env_get : ∀ {σ : List (Option V)} {ρ : Rho} {i : Nat} {d : Dat}, EnvD K G σ ρ → ρ[i]? = some (some d) → ∃ v, σ[i]? = some (some v) ∧ Dv K G v d
  | [], [], _, _, _, e => by simp at e
  | _ :: _, _ :: _, 0, d, h, e => by
    simp at e
    subst e
    obtain ⟨v, h1, h2⟩ := h.1
    exact ⟨v, by simp [h1], h2⟩
  | _ :: σ, _ :: ρ, i + 1, d, h, e => by
    obtain ⟨v, h1, h2⟩ := env_get (i := i) (d := d) h.2 (by simpa using e)
    exact ⟨v, by simpa using h1, h2⟩
  | [], _ :: _, _, _, h, _ => h.elim
  | _ :: _, [], _, _, h, _ => h.elim
theorem env_set {v : V} {d : Dat} (hv : Dv K G v d) : ∀ {σ : List (Option V)} {ρ : Rho} {i : Nat}, EnvD K G σ ρ → EnvD K G (σ.set i (some v)) (ρ.set i (some d))
  | [], [], _, _ => trivial
  | _ :: _, _ :: _, 0, h => ⟨⟨v, rfl, hv⟩, h.2⟩
  | _ :: σ, _ :: ρ, i + 1, h => ⟨h.1, env_set hv (i := i) h.2⟩
  | [], _ :: _, _, h => h.elim
  | _ :: _, [], _, h => h.elim
/-- less is known -/
def Less : Rho → Rho → Prop
  | [], [] => True
  | a :: ρ, b :: ρ' => (b = none ∨ a = b) ∧ Less ρ ρ'
  | [], _ :: _ => False
  | _ :: _, [] => False
theorem env_less : ∀ {σ : List (Option V)} {ρ ρ' : Rho}, Less ρ ρ' → EnvD K G σ ρ → EnvD K G σ ρ'
  | [], [], [], _, _ => trivial
  | _ :: _, _ :: _, _ :: _, l, h => ⟨by
      rcases l.1 with e | e
      · rw [e]; trivial
      · rw [← e]; exact h.1, env_less l.2 h.2⟩
  | _, [], _ :: _, l, _ => l.elim
  | _, _ :: _, [], l, _ => l.elim
  | [], _ :: _, _, _, h => h.elim
  | _ :: _, [], _, _, h => h.elim
theorem env_nones : ∀ (n : Nat), EnvD K G (List.replicate n none) (List.replicate n none)
  | 0 => trivial
  | n + 1 => ⟨trivial, env_nones n⟩
theorem env_start : ∀ {vs : List V} {ds : List Dat} (n : Nat), DvAll K G vs ds → EnvD K G (vs.map some ++ List.replicate n none) (ds.map some ++ List.replicate n none)
  | [], [], n, _ => env_nones n
  | v :: _, _ :: _, n, h => ⟨⟨v, rfl, h.1⟩, env_start n h.2⟩
  | [], _ :: _, _, h => h.elim
  | _ :: _, [], _, h => h.elim
/-! ### steps of the heap; what is said of it -/
variable [Nm]
/-- the table at P tells lambdas of its name alone, and is told of to nobody -/
def LamT (G H : Hp) (P : Addr) : Prop := G P = none ∧ LamX.TabS H P (Nm.nm P)
/-- all that the table leans on stays -/
theorem LamT.keep {G G' H H' : Hp} {P : Addr} (t : LamT G H P) (g : G P = none → G' P = none) (h : ∀ b o, H b = some o → (∀ ps, o ≠ .tbl ps ∨ b = P) → ((∃ ps, o = .tbl ps) ∨ ∃ q, o = LamX.CodeO b q) → H' b = some o) : LamT G' H' P := by
  obtain ⟨t0, ps, t1, t2, t3⟩ := t
  refine ⟨g t0, ps, h P _ t1 (fun _ => .inr rfl) (.inl ⟨ps, rfl⟩), t2, fun pos cv hc => ?_⟩
  obtain ⟨c, e1, e2⟩ := t3 pos cv hc
  exact ⟨c, e1, h c _ e2 (fun ps' => .inl (LamX.codeO_ne ps')) (.inr ⟨_, rfl⟩)⟩
theorem LamT.some {G H : Hp} {P : Addr} (t : LamT G H P) : ∃ ps, H P = Option.some (HO.tbl ps) := let ⟨_, ps, h, _⟩ := t; ⟨ps, h⟩
structure Stp (M : Addr → Prop) (G H G2 H2 : Hp) : Prop where
  gg : Same G G2
  gh : Same G2 H2
  hh : ∀ a o, ¬ M a → H a = some o → Kpt o (H2 a)
  fr : ∀ a o, ¬ M a → H a = some o → G a = none → G2 a = none
  ex : ∀ a o, H a = some o → ∃ u, H2 a = some u
  lt : ∀ P, LamT G H P → LamT G2 H2 P
abbrev NoA : Addr → Prop := fun _ => False
theorem Stp.refl {M : Addr → Prop} (h : Same G H) : Stp M G H G H := ⟨Same.refl _, h, fun _ _ _ e => .of e, fun _ _ _ _ e => e, fun _ o e => ⟨o, e⟩, fun _ t => t⟩
theorem Stp.trans {M : Addr → Prop} (a : Stp M G H G1 H1) (b : Stp M G1 H1 G2 H2) : Stp M G H G2 H2 :=
  ⟨a.gg.trans b.gg, b.gh, fun c o n e => (a.hh c o n e).trans fun u z => b.hh c u n z, fun c o m e n => by
    obtain ⟨u, hu⟩ := a.ex c o e
    exact b.fr c u m hu (a.fr c o m e n), fun c o e => by
    obtain ⟨u, hu⟩ := a.ex c o e
    exact b.ex c u hu, fun P t => b.lt P (a.lt P t)⟩
theorem Stp.wide {M M' : Addr → Prop} (h : ∀ a, M a → M' a) (a : Stp M G H G2 H2) : Stp M' G H G2 H2 :=
  ⟨a.gg, a.gh, fun c o n e => a.hh c o (fun z => n (h c z)) e, fun c o n => a.fr c o (fun z => n (h c z)), a.ex, a.lt⟩
/-- a new object that never changes -/
theorem Stp.new {p : Addr} {o : HO} (h : Same G H) (hp : H p = none) : Stp NoA G H (upd G p o) (upd H p o) := by
  have gp : G p = none := h.free hp
  refine ⟨same_new gp, fun a u e => ?_, fun a u _ e => ?_, fun a u _ e n => ?_, fun a u e => ?_, fun P t => ?_⟩
  · by_cases z : a = p
    · subst z
      rw [upd_same] at e ⊢
      exact .of e
    · rw [upd_ne z] at e ⊢
      exact h a u e
  · rw [upd_ne (ne_of_none e hp)]
    exact .of e
  · rw [upd_ne (ne_of_none e hp)]
    exact n
  · exact ⟨u, by rw [upd_ne (ne_of_none e hp)]; exact e⟩
  · obtain ⟨ps, hP⟩ := t.some
    exact t.keep (fun g => by rw [upd_ne (ne_of_none hP hp)]; exact g) fun b o e _ _ => by rw [upd_ne (ne_of_none e hp)]; exact e
/-- a new object that may change -/
theorem Stp.newM {p : Addr} {o : HO} (h : Same G H) (hp : H p = none) : Stp NoA G H G (upd H p o) :=
  ⟨Same.refl _, h.trans (same_new hp), fun a u _ e => by rw [upd_ne (ne_of_none e hp)]; exact .of e, fun _ _ _ _ n => n, fun a u e => ⟨u, by rw [upd_ne (ne_of_none e hp)]; exact e⟩, fun P t => t.keep (fun g => g) fun b o e _ _ => by rw [upd_ne (ne_of_none e hp)]; exact e⟩
/-- a store -/
theorem Stp.store {p : Addr} {o u : HO} (h : Same G H) (gp : G p = none) (hp : H p = some u) (nt : (∀ ps, u ≠ .tbl ps) ∧ ∀ q, u ≠ LamX.CodeO p q := by exact ⟨fun _ z => (by cases z), fun _ z => (by unfold LamX.CodeO at z; cases z)⟩) : Stp (· = p) G H G (upd H p o) :=
  ⟨Same.refl _, fun a x e => by
    rw [upd_ne (ne_of_none e gp)]
    exact h a x e, fun a x n e => by
    rw [upd_ne n]
    exact .of e, fun _ _ _ _ n => n, fun a x e => by
    by_cases z : a = p
    · subst z
      exact ⟨o, upd_same⟩
    · exact ⟨x, by rw [upd_ne z]; exact e⟩, fun P t => t.keep (fun g => g) fun b x e _ k => by
    have ne : b ≠ p := fun z => by
      rw [z, hp] at e
      rcases k with ⟨ps, k⟩ | ⟨f, k⟩
      · exact nt.1 ps ((Option.some.inj e).trans k)
      · exact nt.2 f ((Option.some.inj e).trans (by rw [k, z]))
    rw [upd_ne ne]
    exact e⟩
/-- a table grows -/
theorem Stp.tab {p : Addr} {ps qs : Array Value} (h : Same G H) (gp : G p ≠ none) (hp : H p = some (.tbl ps)) (t : TriplesOk ps.toList → TriplesOk qs.toList) : Stp NoA G H G (upd H p (.tbl qs)) := by
  have k : ∀ a x, H a = some x → Kpt x (upd H p (.tbl qs) a) := fun a x e => by
    by_cases z : a = p
    · subst z
      rw [hp] at e
      cases e
      exact ⟨qs, upd_same, t⟩
    · rw [upd_ne z]
      exact .of e
  exact ⟨Same.refl _, fun a x e => (h a x e).trans fun u z => k a u z, fun a x _ e => k a x e, fun _ _ _ _ n => n, fun a x e => let ⟨u, z, _⟩ := (k a x e).some; ⟨u, z⟩, fun P t => t.keep (fun g => g) fun b x e n _ => by
    have ne : b ≠ p := fun z => by
      rw [z, hp] at e
      rcases n ps with n | n
      · exact n (Option.some.inj e).symm
      · exact gp (by rw [← z, n]; exact t.1)
    rw [upd_ne ne]
    exact e⟩
/-- a lambda is made -/
theorem Stp.lam {P : Addr} {q : Str} (h : Same G H) (t : LamT G H P) (hq : Nm.nm P = q) (k : ∀ b o, b ≠ P → H b = some o → H2 b = some o) (t2 : LamX.TabS H2 P q) : Stp NoA G H G H2 := by
  obtain ⟨ps, hP, hT, _⟩ := t.2
  have t3 := t2
  obtain ⟨qs, hQ, hS, _⟩ := t2
  have nG : ∀ a o, G a = some o → a ≠ P := fun a o e z => by
    rw [z, t.1] at e
    cases e
  refine ⟨Same.refl _, fun a o e => (h a o e).trans fun u z => .of (k a u (nG a o e) z), fun a o _ e => ?_, fun _ _ _ _ n => n, fun a o e => ?_, fun Q tQ => ?_⟩
  · by_cases z : a = P
    · rw [z] at e ⊢
      rw [hP] at e
      cases e
      exact ⟨qs, hQ, fun _ => hS⟩
    · exact .of (k a o z e)
  · by_cases z : a = P
    · rw [z]
      exact ⟨_, hQ⟩
    · exact ⟨o, k a o z e⟩
  · by_cases z : Q = P
    · rw [z]
      refine ⟨t.1, ?_⟩
      rw [hq]
      exact t3
    · refine tQ.keep (fun g => g) fun b o e n _ => k b o (fun y => ?_) e
      rw [y, hP] at e
      rcases n ps with n | n
      · exact n (Option.some.inj e).symm
      · exact z (by rw [← n, y])
/-- the tables at these places are known -/
def TabsIn (T : Tbs) (G H : Hp) : Prop := (∀ p ∈ T.gs, ∃ ps : Array Value, G p = some (.tbl ps) ∧ TriplesOk ps.toList) ∧ ∀ P ∈ T.ls, LamT G H P
theorem TabsIn.go {M : Addr → Prop} {T : Tbs} (h : TabsIn T G H) (s : Stp M G H G2 H2) : TabsIn T G2 H2 := ⟨fun p hp => by
  obtain ⟨ps, e1, t⟩ := h.1 p hp
  obtain ⟨qs, e2, t2⟩ := s.gg p _ e1
  exact ⟨qs, e2, t2 t⟩, fun P hP => s.lt P (h.2 P hP)⟩
structure Asn where
  foot : Addr → Prop
  ok : Hp → Hp → Prop
  st : ∀ (M : Addr → Prop) (G H G2 H2 : Hp), (∀ a, foot a → ¬ M a) → Stp M G H G2 H2 → ok G H → ok G2 H2
  own : ∀ (G H : Hp) (a : Addr), ok G H → foot a → ∃ o, H a = some o
theorem Asn.pure_st {I : Asn} (s : Stp NoA G H G2 H2) (h : I.ok G H) : I.ok G2 H2 := I.st NoA G H G2 H2 (fun _ _ z => z) s h
def Asn.tt : Asn := ⟨NoA, fun _ _ => True, fun _ _ _ _ _ _ _ _ => trivial, fun _ _ _ _ z => z.elim⟩
def Asn.and (I J : Asn) : Asn := ⟨fun a => I.foot a ∨ J.foot a, fun G H => I.ok G H ∧ J.ok G H, fun M G H G2 H2 n s h => ⟨I.st M G H G2 H2 (fun a z => n a (.inl z)) s h.1, J.st M G H G2 H2 (fun a z => n a (.inr z)) s h.2⟩, fun G H a h z => z.elim (I.own G H a h.1) (J.own G H a h.2)⟩
/-- all that was, but M's, stands as it stood -/
def Asn.since (M : Addr → Prop) (G0 H0 : Hp) : Asn := ⟨fun a => ¬ M a ∧ ∃ o, H0 a = some o, fun G H => Stp M G0 H0 G H, fun M' G H G2 H2 n s h =>
  ⟨h.gg.trans s.gg, s.gh, fun a o m e => (h.hh a o m e).trans fun u z => s.hh a u (n a ⟨m, o, e⟩) z, fun a o m e g => by
    obtain ⟨u, hu⟩ := h.ex a o e
    exact s.fr a u (n a ⟨m, o, e⟩) hu (h.fr a o m e g), fun a o e => by
    obtain ⟨u, hu⟩ := h.ex a o e
    exact s.ex a u hu, fun P t => s.lt P (h.lt P t)⟩, fun G H a h ⟨_, o, e⟩ => h.ex a o e⟩
/-! ### judgements -/
def E (K : PySem.W.Frag) (te : TE) (ρ : Rho) (I : Asn) (d : Dat) (J : Asn) : Prop :=
  ∀ G H σ, Same G H → EnvD K G σ ρ → I.ok G H → ∀ Q : VK, (∀ v G2 H2, Same G G2 → Same G2 H2 → J.ok G2 H2 → Dv K G2 v d → Q v H2) → te σ H Q
def A (K : PySem.W.Frag) (ta : TA) (ρ : Rho) (I : Asn) (ds : List Dat) (J : Asn) : Prop :=
  ∀ G H σ, Same G H → EnvD K G σ ρ → I.ok G H → ∀ Q : List V → Hp → Prop, (∀ vs G2 H2, Same G G2 → Same G2 H2 → J.ok G2 H2 → DvAll K G2 vs ds → Q vs H2) → ta σ H Q
def T (K : PySem.W.Frag) (tt : TT) (ρ : Rho) (I : Asn) (b : Bool) (J : Asn) : Prop :=
  ∀ G H σ, Same G H → EnvD K G σ ρ → I.ok G H → ∀ Q : Bool → Hp → Prop, (∀ G2 H2, Same G G2 → Same G2 H2 → J.ok G2 H2 → Q b H2) → tt σ H Q
inductive Out where
  | nx (ρ : Rho) (J : Asn)
  | rt (d : Dat) (J : Asn)
  | bk (ρ : Rho) (J : Asn)
  | ct (ρ : Rho) (J : Asn)
  | fin (P : V → Hp → Hp → Prop)
  | ne (P : Rho → Asn → Prop)
def Fin (K : PySem.W.Frag) (D : Ends) (G : Hp) : Out → Prop
  | .nx ρ J => ∀ G2 H2 σ, Same G G2 → Same G2 H2 → EnvD K G2 σ ρ → J.ok G2 H2 → D.nx σ H2
  | .bk ρ J => ∀ G2 H2 σ, Same G G2 → Same G2 H2 → EnvD K G2 σ ρ → J.ok G2 H2 → D.bk σ H2
  | .ct ρ J => ∀ G2 H2 σ, Same G G2 → Same G2 H2 → EnvD K G2 σ ρ → J.ok G2 H2 → D.ct σ H2
  | .rt d J => ∀ v G2 H2, Same G G2 → Same G2 H2 → J.ok G2 H2 → Dv K G2 v d → D.rt v H2
  | .fin P => ∀ v G2 H2, Same G G2 → Same G2 H2 → P v G2 H2 → D.rt v H2
  | .ne P => ∀ ρ J, P ρ J → ∀ G2 H2 σ, Same G G2 → Same G2 H2 → EnvD K G2 σ ρ → J.ok G2 H2 → D.nx σ H2
theorem Fin.mono {D : Ends} {k : Out} (e : Same G G1) (h : Fin K D G k) : Fin K D G1 k := by
  cases k with
  | nx ρ J => exact fun G2 H2 σ a => h G2 H2 σ (e.trans a)
  | bk ρ J => exact fun G2 H2 σ a => h G2 H2 σ (e.trans a)
  | ct ρ J => exact fun G2 H2 σ a => h G2 H2 σ (e.trans a)
  | rt d J => exact fun v G2 H2 a => h v G2 H2 (e.trans a)
  | fin P => exact fun v G2 H2 a => h v G2 H2 (e.trans a)
  | ne P => exact fun ρ J p G2 H2 σ a => h ρ J p G2 H2 σ (e.trans a)
def S (K : PySem.W.Frag) (t : TS) (ρ : Rho) (I : Asn) (k : Out) : Prop :=
  ∀ G H σ (D : Ends), Same G H → EnvD K G σ ρ → I.ok G H → Fin K D G k → t D σ H
end
variable [Nm]
section
variable {K : PySem.W.Frag} {ρ ρ1 : Rho} {I J L N : Asn} {ta tb tc te : TE} {d e : Dat} {t u : TT} {b c : Bool}
/-! ### expressions -/
theorem e_var {i : Nat} (h : ρ[i]? = some (some d)) : E K (tVar i) ρ I d I := fun G H σ gh en io Q q => by
  obtain ⟨v, h1, h2⟩ := env_get en h
  exact ⟨v, h1, q v G H (Same.refl _) gh io h2⟩
theorem e_int {i : Int} : E K (tC (.int i)) ρ I (.i i) I := fun G H σ gh en io Q q => q _ G H (Same.refl _) gh io (.int i)
theorem e_bl {i : Bool} : E K (tC (.bl i)) ρ I (.b i) I := fun G H σ gh en io Q q => q _ G H (Same.refl _) gh io (.bl i)
theorem e_str {i : Str} : E K (tC (.str i)) ρ I (.d (.str i)) I := fun G H σ gh en io Q q => q _ G H (Same.refl _) gh io (.str i)
theorem e_non : E K (tC .non) ρ I (.d .none) I := fun G H σ gh en io Q q => q _ G H (Same.refl _) gh io .non
/-- a two-place operation on values -/
theorem e_op {r : R2} {f : Dat} (ha : E K ta ρ I d J) (hb : E K tb ρ J e L) (hr : ∀ G H x y, Same G H → L.ok G H → Dv K G x d → Dv K G y e → ∀ Q : VK, (∀ v G2 H2, Same G G2 → Same G2 H2 → N.ok G2 H2 → Dv K G2 v f → Q v H2) → r x y H Q) : E K (tOp r ta tb) ρ I f N :=
  fun G H σ gh en io Q q => ha G H σ gh en io _ fun x G1 H1 g1 gh1 j1 dx => hb G1 H1 σ gh1 (env_mono g1 en) j1 _ fun y G2 H2 g2 gh2 j2 dy =>
    hr G2 H2 x y gh2 j2 (dv_mono g2 dx) dy Q fun v G3 H3 g3 => q v G3 H3 ((g1.trans g2).trans g3)
theorem dv_int {G : Hp} {x : V} {i : Int} (h : Dv K G x (.i i)) : x = .int i := by
  cases h
  rfl
theorem dv_bl {G : Hp} {x : V} {i : Bool} (h : Dv K G x (.b i)) : x = .bl i := by
  cases h
  rfl
theorem e_I0 {f : Int → Int → Int} {i j : Int} (ha : E K ta ρ I (.i i) J) (hb : E K tb ρ J (.i j) L) : E K (tOp (rI0 fun i j => .int (f i j)) ta tb) ρ I (.i (f i j)) L :=
  e_op ha hb fun G H x y gh lo dx dy Q q => ⟨i, j, dv_int dx, dv_int dy, q _ G H (Same.refl _) gh lo (.int _)⟩
theorem e_I {C : Int → Int → Prop} {f : Int → Int → Int} {i j : Int} (ha : E K ta ρ I (.i i) J) (hb : E K tb ρ J (.i j) L) (hc : C i j) : E K (tOp (rI C fun i j => .int (f i j)) ta tb) ρ I (.i (f i j)) L :=
  e_op ha hb fun G H x y gh lo dx dy Q q => ⟨i, j, dv_int dx, dv_int dy, hc, q _ G H (Same.refl _) gh lo (.int _)⟩
theorem e_B0 {f : Int → Int → Bool} {i j : Int} (ha : E K ta ρ I (.i i) J) (hb : E K tb ρ J (.i j) L) : E K (tOp (rI0 fun i j => .bl (f i j)) ta tb) ρ I (.b (f i j)) L :=
  e_op ha hb fun G H x y gh lo dx dy Q q => ⟨i, j, dv_int dx, dv_int dy, q _ G H (Same.refl _) gh lo (.bl _)⟩
theorem e_add {i j : Int} (ha : E K ta ρ I (.i i) J) (hb : E K tb ρ J (.i j) L) : E K (tOp (rI0 fun i j => .int (i + j)) ta tb) ρ I (.i (i + j)) L := e_I0 (f := fun i j => i + j) ha hb
theorem e_sub {i j : Int} (ha : E K ta ρ I (.i i) J) (hb : E K tb ρ J (.i j) L) : E K (tOp (rI0 fun i j => .int (i - j)) ta tb) ρ I (.i (i - j)) L := e_I0 (f := fun i j => i - j) ha hb
theorem e_mul {i j : Int} (ha : E K ta ρ I (.i i) J) (hb : E K tb ρ J (.i j) L) (hc : CMulW i j) : E K (tOp (rI CMulW fun i j => .int (i * j)) ta tb) ρ I (.i (i * j)) L := e_I (f := fun i j => i * j) ha hb hc
theorem e_div {i j : Int} (ha : E K ta ρ I (.i i) J) (hb : E K tb ρ J (.i j) L) (hc : CDivW i j) : E K (tOp (rI CDivW fun i j => .int (i / j)) ta tb) ρ I (.i (i / j)) L := e_I (f := fun i j => i / j) ha hb hc
theorem e_mod {i j : Int} (ha : E K ta ρ I (.i i) J) (hb : E K tb ρ J (.i j) L) (hc : 0 < j) : E K (tOp (rI (fun _ j => 0 < j) fun i j => .int (i % j)) ta tb) ρ I (.i (i % j)) L := e_I (f := fun i j => i % j) ha hb hc
theorem e_pow {i j : Int} (ha : E K ta ρ I (.i i) J) (hb : E K tb ρ J (.i j) L) (hc : CPow i j) : E K (tOp (rI CPow fun i j => .int (i ^ j.toNat)) ta tb) ρ I (.i (i ^ j.toNat)) L := e_I (f := fun i j => i ^ j.toNat) ha hb hc
theorem e_lt {i j : Int} (ha : E K ta ρ I (.i i) J) (hb : E K tb ρ J (.i j) L) : E K (tOp (rI0 fun i j => .bl (decide (i < j))) ta tb) ρ I (.b (decide (i < j))) L := e_B0 (f := fun i j => decide (i < j)) ha hb
theorem e_le {i j : Int} (ha : E K ta ρ I (.i i) J) (hb : E K tb ρ J (.i j) L) : E K (tOp (rI0 fun i j => .bl (decide (i ≤ j))) ta tb) ρ I (.b (decide (i ≤ j))) L := e_B0 (f := fun i j => decide (i ≤ j)) ha hb
theorem e_gt {i j : Int} (ha : E K ta ρ I (.i i) J) (hb : E K tb ρ J (.i j) L) : E K (tOp (rI0 fun i j => .bl (decide (j < i))) ta tb) ρ I (.b (decide (j < i))) L := e_B0 (f := fun i j => decide (j < i)) ha hb
theorem e_ge {i j : Int} (ha : E K ta ρ I (.i i) J) (hb : E K tb ρ J (.i j) L) : E K (tOp (rI0 fun i j => .bl (decide (j ≤ i))) ta tb) ρ I (.b (decide (j ≤ i))) L := e_B0 (f := fun i j => decide (j ≤ i)) ha hb
theorem e_eqI {i j : Int} (ha : E K ta ρ I (.i i) J) (hb : E K tb ρ J (.i j) L) : E K (tOp rEq ta tb) ρ I (.b (decide (i = j))) L :=
  e_op ha hb fun G H x y gh lo dx dy Q q => by
    obtain rfl := dv_int dx
    obtain rfl := dv_int dy
    refine ⟨rfl, q _ G H (Same.refl _) gh lo ?_⟩
    have z : decide (V.int i = V.int j) = decide (i = j) := by
      by_cases h : i = j
      · subst h; simp
      · rw [decide_eq_false h, decide_eq_false (fun z => h (V.int.inj z))]
    rw [z]
    exact .bl _
theorem e_neI {i j : Int} (ha : E K ta ρ I (.i i) J) (hb : E K tb ρ J (.i j) L) : E K (tOp rNe ta tb) ρ I (.b (!decide (i = j))) L :=
  e_op ha hb fun G H x y gh lo dx dy Q q => by
    obtain rfl := dv_int dx
    obtain rfl := dv_int dy
    refine ⟨rfl, q _ G H (Same.refl _) gh lo ?_⟩
    have z : decide (V.int i = V.int j) = decide (i = j) := by
      by_cases h : i = j
      · subst h; simp
      · rw [decide_eq_false h, decide_eq_false (fun z => h (V.int.inj z))]
    rw [z]
    exact .bl _
theorem e_eqD {x y : PyData} (ha : E K ta ρ I (.d x) J) (hb : E K tb ρ J (.d y) L) (hx : SeqAt.shaped x = true) (hy : SeqAt.shaped y = true) : E K (tOp (rEqD K) ta tb) ρ I (.b (PyData.eqv x y)) L :=
  e_op ha hb fun G H a b gh lo dx dy Q q => ⟨x, y, dp_mono gh _ _ dx, dp_mono gh _ _ dy, hx, hy, q _ G H (Same.refl _) gh lo (.bl _)⟩
theorem e_neD {x y : PyData} (ha : E K ta ρ I (.d x) J) (hb : E K tb ρ J (.d y) L) (hx : SeqAt.shaped x = true) (hy : SeqAt.shaped y = true) : E K (tOp (rNeD K) ta tb) ρ I (.b (!PyData.eqv x y)) L :=
  e_op ha hb fun G H a b gh lo dx dy Q q => ⟨x, y, dp_mono gh _ _ dx, dp_mono gh _ _ dy, hx, hy, q _ G H (Same.refl _) gh lo (.bl _)⟩
theorem e_neg {i : Int} (ha : E K ta ρ I (.i i) J) : E K (tUn (rU fun i => .int (-i)) ta) ρ I (.i (-i)) J :=
  fun G H σ gh en io Q q => ha G H σ gh en io _ fun x G1 H1 g1 gh1 j1 dx => ⟨i, dv_int dx, q _ G1 H1 g1 gh1 j1 (.int _)⟩
/-- an item of a tuple -/
theorem e_ixT {ds : List PyData} {j : Nat} {x : PyData} (ha : E K ta ρ I (.t ds) J) (hb : E K tb ρ J (.i (j : Nat)) L) (h : ds[j]? = some x) : E K (tOp (rIxT K) ta tb) ρ I (.d x) L :=
  e_op ha hb fun G H a b gh lo dx dy Q q => by
    cases dx with
    | tup s r =>
      obtain rfl := dv_int dy
      obtain ⟨v, h1, h2⟩ := dpa_get r h
      exact ⟨_, _, _, v, rfl, rfl, same_t gh s, atI_nat h1, q v G H (Same.refl _) gh lo h2⟩
/-- an item of a list that never changes -/
theorem e_ixL {ds : List PyData} {j : Nat} {x : PyData} (ha : E K ta ρ I (.d (.list ds)) J) (hb : E K tb ρ J (.i (j : Nat)) L) (h : ds[j]? = some x) : E K (tOp (rIxL K) ta tb) ρ I (.d x) L :=
  e_op ha hb fun G H a b gh lo dx dy Q q => by
    cases dx with
    | lst s r =>
      obtain rfl := dv_int dy
      obtain ⟨v, h1, h2⟩ := dpa_get r h
      exact ⟨_, _, _, v, rfl, rfl, gh.seq s, atI_nat h1, q v G H (Same.refl _) gh lo h2⟩
/-! ### arguments, displays, calls of built-ins -/
theorem a_nil : A K tNil ρ I [] I := fun G H σ gh en io Q q => q [] G H (Same.refl _) gh io trivial
theorem a_cons {tr : TA} {ds : List Dat} (ha : E K ta ρ I d J) (hr : A K tr ρ J ds L) : A K (tCons ta tr) ρ I (d :: ds) L :=
  fun G H σ gh en io Q q => ha G H σ gh en io _ fun x G1 H1 g1 gh1 j1 dx => hr G1 H1 σ gh1 (env_mono g1 en) j1 _ fun xs G2 H2 g2 gh2 j2 dxs => q (x :: xs) G2 H2 (g1.trans g2) gh2 j2 ⟨dv_mono g2 dx, dxs⟩
theorem sz_of {n : Nat} (h : n ≤ 100000) : n ≤ sizeLine := Nat.le_trans h (by decide)
theorem e_tupA {tr : TA} {ds : List PyData} (hr : A K tr ρ I (ds.map Dat.d) J) (hl : ds.length ≤ 100000) : E K (tTup tr) ρ I (.t ds) J :=
  fun G H σ gh en io Q q => hr G H σ gh en io _ fun xs G1 H1 g1 gh1 j1 dxs => by
    have r := dva_dp dxs
    refine ⟨by rw [dpa_len r]; exact sz_of hl, fun p hp => ?_⟩
    have s := Stp.new (o := .tup xs) gh1 hp
    exact q _ _ _ (g1.trans s.gg) s.gh (Asn.pure_st s j1) (.tup (.inl (.inl upd_same)) (dp_monos s.gg ds xs r))
theorem e_lstA {tr : TA} {ds : List PyData} (hr : A K tr ρ I (ds.map Dat.d) J) (hl : ds.length ≤ 100000) : E K (tLst tr) ρ I (.d (.list ds)) J :=
  fun G H σ gh en io Q q => hr G H σ gh en io _ fun xs G1 H1 g1 gh1 j1 dxs => by
    have r := dva_dp dxs
    refine ⟨by rw [dpa_len r]; exact sz_of hl, fun p hp => ?_⟩
    have s := Stp.new (o := .lst xs) gh1 hp
    exact q _ _ _ (g1.trans s.gg) s.gh (Asn.pure_st s j1) (.lst (.inl (.inl upd_same)) (dp_monos s.gg ds xs r))
inductive Ds : List Dat → List PyData → Prop
  | nil : Ds [] []
  | cons {x : PyData} {ds : List Dat} {xs : List PyData} : Ds ds xs → Ds (.d x :: ds) (x :: xs)
theorem Ds.map {ds : List Dat} {xs : List PyData} (h : Ds ds xs) : ds = xs.map Dat.d := by
  induction h with
  | nil => rfl
  | cons _ ih => rw [ih, List.map_cons]
theorem e_tup {tr : TA} {ds : List Dat} {xs : List PyData} (hr : A K tr ρ I ds J) (hd : Ds ds xs) (hl : xs.length ≤ 100000) : E K (tTup tr) ρ I (.t xs) J := e_tupA (by rw [← hd.map]; exact hr) hl
theorem e_lst {tr : TA} {ds : List Dat} {xs : List PyData} (hr : A K tr ρ I ds J) (hd : Ds ds xs) (hl : xs.length ≤ 100000) : E K (tLst tr) ρ I (.d (.list xs)) J := e_lstA (by rw [← hd.map]; exact hr) hl
theorem e_cb {r : List V → Hp → VK → Prop} {tr : TA} {ds : List Dat} (hr : A K tr ρ I ds J) (h : ∀ G H vs, Same G H → J.ok G H → DvAll K G vs ds → ∀ Q : VK, (∀ v G2 H2, Same G G2 → Same G2 H2 → L.ok G2 H2 → Dv K G2 v d → Q v H2) → r vs H Q) : E K (tCB r tr) ρ I d L :=
  fun G H σ gh en io Q q => hr G H σ gh en io _ fun xs G1 H1 g1 gh1 j1 dxs => h G1 H1 xs gh1 j1 dxs Q fun v G2 H2 g2 => q v G2 H2 (g1.trans g2)
theorem dva1 {G : Hp} {vs : List V} {d : Dat} (h : DvAll K G vs [d]) : ∃ v, vs = [v] ∧ Dv K G v d := by
  match vs, h with
  | [v], h => exact ⟨v, rfl, h.1⟩
theorem dva2 {G : Hp} {vs : List V} {d e : Dat} (h : DvAll K G vs [d, e]) : ∃ v w, vs = [v, w] ∧ Dv K G v d ∧ Dv K G w e := by
  match vs, h with
  | [v, w], h => exact ⟨v, w, rfl, h.1, h.2.1⟩
theorem e_gcd {i j : Int} {tr : TA} (hr : A K tr ρ I [.i i, .i j] J) : E K (tCB rGcd tr) ρ I (.i ((Nat.gcd i.natAbs j.natAbs : Nat) : Int)) J :=
  e_cb hr fun G H vs gh jo h Q q => by
    obtain ⟨v, w, rfl, h1, h2⟩ := dva2 h
    obtain rfl := dv_int h1
    obtain rfl := dv_int h2
    exact ⟨i, j, rfl, q _ G H (Same.refl _) gh jo (.int _)⟩
theorem e_len {ds : List PyData} {tr : TA} (hr : A K tr ρ I [.d (.list ds)] J) : E K (tCB (fun xs H Q => ∃ p ys, xs = [.ref p] ∧ (SqL K H p ys ∨ SqT K H p ys) ∧ Q (.int ys.length) H) tr) ρ I (.i (ds.length : Nat)) J :=
  e_cb hr fun G H vs gh jo h Q q => by
    obtain ⟨v, rfl, h1⟩ := dva1 h
    cases h1 with
    | lst s r => exact ⟨_, _, rfl, .inl (gh.seq s), by rw [dpa_len r]; exact q _ G H (Same.refl _) gh jo (.int _)⟩
/-! ### tests -/
theorem t_test (h : E K te ρ I (.b b) J) : T K (tTest te) ρ I b J := fun G H σ gh en io Q q => h G H σ gh en io _ fun x G1 H1 g1 gh1 j1 dx => ⟨b, dv_bl dx, q G1 H1 g1 gh1 j1⟩
theorem t_B (h : E K te ρ I (.b b) J) : T K (tB te) ρ I b J := fun G H σ gh en io Q q => h G H σ gh en io _ fun x G1 H1 g1 gh1 j1 dx => ⟨b, dv_bl dx, q G1 H1 g1 gh1 j1⟩
theorem t_not (h : T K t ρ I b J) : T K (tNot t) ρ I (!b) J := fun G H σ gh en io Q q => h G H σ gh en io _ fun G1 H1 g1 gh1 j1 => q G1 H1 g1 gh1 j1
theorem t_or (h : T K t ρ I b J) (h2 : b = false → T K u ρ J c J) : T K (tOr t u) ρ I (b || c) J := fun G H σ gh en io Q q => h G H σ gh en io _ fun G1 H1 g1 gh1 j1 => by
  cases b with
  | false =>
    show u σ H1 Q
    exact h2 rfl G1 H1 σ gh1 (env_mono g1 en) j1 Q fun G2 H2 g2 => q G2 H2 (g1.trans g2)
  | true =>
    show Q true H1
    exact q G1 H1 g1 gh1 j1
/-- and, or whose outcome is told by the first -/
theorem t_andF (h : T K t ρ I false J) : T K (tAnd t u) ρ I false J := fun G H σ gh en io Q q => h G H σ gh en io _ fun G1 H1 g1 gh1 j1 => q G1 H1 g1 gh1 j1
theorem t_andT (h : T K t ρ I true J) (h2 : T K u ρ J c L) : T K (tAnd t u) ρ I c L := fun G H σ gh en io Q q => h G H σ gh en io _ fun G1 H1 g1 gh1 j1 => h2 G1 H1 σ gh1 (env_mono g1 en) j1 Q fun G2 H2 g2 => q G2 H2 (g1.trans g2)
theorem t_orT (h : T K t ρ I true J) : T K (tOr t u) ρ I true J := fun G H σ gh en io Q q => h G H σ gh en io _ fun G1 H1 g1 gh1 j1 => q G1 H1 g1 gh1 j1
theorem t_orF (h : T K t ρ I false J) (h2 : T K u ρ J c L) : T K (tOr t u) ρ I c L := fun G H σ gh en io Q q => h G H σ gh en io _ fun G1 H1 g1 gh1 j1 => h2 G1 H1 σ gh1 (env_mono g1 en) j1 Q fun G2 H2 g2 => q G2 H2 (g1.trans g2)
theorem t_is {b c : Bool} (h : T K t ρ I b J) (e : b = c) : T K t ρ I c J := e ▸ h
theorem e_is {d e : Dat} (h : E K te ρ I d J) (z : d = e) : E K te ρ I e J := z ▸ h
theorem e_ifT (h : T K t ρ I true J) (h2 : E K ta ρ J d L) : E K (tIf t ta tb) ρ I d L := fun G H σ gh en io Q q => h G H σ gh en io _ fun G1 H1 g1 gh1 j1 => h2 G1 H1 σ gh1 (env_mono g1 en) j1 Q fun v G2 H2 g2 => q v G2 H2 (g1.trans g2)
theorem e_ifF (h : T K t ρ I false J) (h2 : E K tb ρ J d L) : E K (tIf t ta tb) ρ I d L := fun G H σ gh en io Q q => h G H σ gh en io _ fun G1 H1 g1 gh1 j1 => h2 G1 H1 σ gh1 (env_mono g1 en) j1 Q fun v G2 H2 g2 => q v G2 H2 (g1.trans g2)
theorem e_andV (h : E K ta ρ I (.b b) J) (h2 : b = true → E K tb ρ J (.b c) J) : E K (tAndV ta tb) ρ I (.b (b && c)) J := fun G H σ gh en io Q q => h G H σ gh en io _ fun x G1 H1 g1 gh1 j1 dx => ⟨b, dv_bl dx, by
  cases b with
  | true =>
    show tb σ H1 Q
    exact h2 rfl G1 H1 σ gh1 (env_mono g1 en) j1 Q fun v G2 H2 g2 => q v G2 H2 (g1.trans g2)
  | false =>
    show Q (.bl false) H1
    exact q _ G1 H1 g1 gh1 j1 (.bl _)⟩
/-! ### statements -/
variable {ts us : TS} {k : Out}
theorem s_next : S K tNext ρ I (.nx ρ I) := fun G H σ D gh en io f => f G H σ (Same.refl _) gh en io
theorem s_asg {i : Nat} (h : E K te ρ I d J) : S K (tAsg te (gName i)) ρ I (.nx (ρ.set i (some d)) J) := fun G H σ D gh en io f => h G H σ gh en io _ fun v G1 H1 g1 gh1 j1 dv => f G1 H1 _ g1 gh1 (env_set dv (env_mono g1 en)) j1
theorem s_ret (h : E K te ρ I d J) : S K (tRet te) ρ I (.rt d J) := fun G H σ D gh en io f => h G H σ gh en io _ fun v G1 H1 g1 gh1 j1 dv => f v G1 H1 g1 gh1 j1 dv
theorem s_drop (h : E K te ρ I d J) : S K (tDrop te) ρ I (.nx ρ J) := fun G H σ D gh en io f => h G H σ gh en io _ fun v G1 H1 g1 gh1 j1 dv => f G1 H1 σ g1 gh1 (env_mono g1 en) j1
theorem s_seq (h : S K ts ρ I (.nx ρ1 J)) (h2 : S K us ρ1 J k) : S K (tSeq ts us) ρ I k := fun G H σ D gh en io f => h G H σ _ gh en io fun G1 H1 σ1 g1 gh1 en1 j1 => h2 G1 H1 σ1 D gh1 en1 j1 (f.mono g1)
theorem s_stop {d : Dat} (h : S K ts ρ I (.rt d J)) : S K (tSeq ts us) ρ I (.rt d J) := fun G H σ D gh en io f => h G H σ _ gh en io f
theorem s_stopC {ρ1 : Rho} (h : S K ts ρ I (.ct ρ1 J)) : S K (tSeq ts us) ρ I (.ct ρ1 J) := fun G H σ D gh en io f => h G H σ _ gh en io f
theorem s_cont : S K tCont ρ I (.ct ρ I) := fun G H σ D gh en io f => f G H σ (Same.refl _) gh en io
theorem s_ifT (h : T K t ρ I true J) (h2 : S K ts ρ J k) : S K (tIfS t ts us) ρ I k := fun G H σ D gh en io f => h G H σ gh en io _ fun G1 H1 g1 gh1 j1 => h2 G1 H1 σ D gh1 (env_mono g1 en) j1 (f.mono g1)
theorem s_ifF (h : T K t ρ I false J) (h2 : S K us ρ J k) : S K (tIfS t ts us) ρ I k := fun G H σ D gh en io f => h G H σ gh en io _ fun G1 H1 g1 gh1 j1 => h2 G1 H1 σ D gh1 (env_mono g1 en) j1 (f.mono g1)
theorem s_par {i j : Nat} {tr : TA} (h : A K tr ρ I [d, e] J) : S K (tPar i j tr) ρ I (.nx ((ρ.set i (some d)).set j (some e)) J) := fun G H σ D gh en io f => h G H σ gh en io _ fun vs G1 H1 g1 gh1 j1 dv => by
  obtain ⟨v, w, rfl, h1, h2⟩ := dva2 dv
  exact ⟨v, w, rfl, f G1 H1 _ g1 gh1 (env_set h2 (env_set h1 (env_mono g1 en))) j1⟩
theorem s_is {k k' : Out} (h : S K ts ρ I k) (e : k = k') : S K ts ρ I k' := e ▸ h
theorem s_lessN {ρ' ρ'' : Rho} (l : Less ρ' ρ'') (h : S K ts ρ I (.nx ρ' J)) : S K ts ρ I (.nx ρ'' J) := fun G H σ D gh en io f => h G H σ D gh en io fun G2 H2 σ2 g2 gh2 en2 => f G2 H2 σ2 g2 gh2 (env_less l en2)
/-! ### while -/
theorem s_while {α : Type} {tc : TT} (Iv : α → Prop) (P : α → Rho) (V : α → Asn) (μ : α → Nat) (s0 : α) (h0 : Iv s0)
    (turn : ∀ s, Iv s → (T K tc (P s) (V s) true (V s) ∧ ((∃ s', Iv s' ∧ μ s' < μ s ∧ S K ts (P s) (V s) (.nx (P s') (V s'))) ∨ (∃ d J, k = .rt d J ∧ S K ts (P s) (V s) k))) ∨ (T K tc (P s) (V s) false (V s) ∧ k = .nx (P s) (V s))) :
    S K (tWhile tc ts) (P s0) (V s0) k := fun G H σ D gh en io f => by
  refine ⟨fun m σ' H' => ∃ s G', m = μ s ∧ Iv s ∧ Same G G' ∧ Same G' H' ∧ EnvD K G' σ' (P s) ∧ (V s).ok G' H', ⟨μ s0, s0, G, rfl, h0, Same.refl _, gh, en, io⟩, fun m σ' H' hw => ?_⟩
  obtain ⟨s, G', rfl, iv, g', gh', en', io'⟩ := hw
  rcases turn s iv with ⟨ht, hb⟩ | ⟨ht, hk⟩
  · refine ht G' H' σ' gh' en' io' _ fun G1 H1 g1 gh1 j1 => ?_
    rcases hb with ⟨s', iv', lt, hs⟩ | ⟨d, J, rfl, hs⟩
    · refine ⟨fun σ2 H2 => ∃ G2, Same G G2 ∧ Same G2 H2 ∧ EnvD K G2 σ2 (P s') ∧ (V s').ok G2 H2, fun σ2 H2 ⟨G2, a, b, c, d⟩ => ⟨μ s', lt, s', G2, rfl, iv', a, b, c, d⟩, ?_⟩
      exact hs G1 H1 σ' _ gh1 (env_mono g1 en') j1 fun G2 H2 σ2 g2 gh2 en2 j2 => ⟨G2, (g'.trans g1).trans g2, gh2, en2, j2⟩
    · refine ⟨fun _ _ => False, fun _ _ z => z.elim, ?_⟩
      exact hs G1 H1 σ' _ gh1 (env_mono g1 en') j1 ((f.mono g').mono g1 : Fin K D G1 (.rt d J))
  · subst hk
    exact ht G' H' σ' gh' en' io' _ fun G1 H1 g1 gh1 j1 => f G1 H1 σ' (g'.trans g1) gh1 (env_mono g1 en') j1
/-! ### for over a list that never changes, a tuple, a range -/
theorem s_forL {tl : TE} {ds : List PyData} {j : Nat} (P : Nat → Rho) (V : Nat → Asn) (hl : E K tl ρ I (.d (.list ds)) (V 0)) (h0 : ρ = P 0)
    (turn : ∀ i x, ds[i]? = some x → S K ts ((P i).set j (some (.d x))) (V i) (.nx (P (i + 1)) (V (i + 1)))) : S K (tFor (iList K tl) (gName j) ts) ρ I (.nx (P ds.length) (V ds.length)) := fun G H σ D gh en io f => by
  refine hl G H σ gh en io _ fun v G1 H1 g1 gh1 j1 dv => ?_
  cases dv with
  | lst s r =>
    rename_i a xs
    subst h0
    refine ⟨a, rfl, ⟨_, gh1.seq s⟩, for_list (xs := xs) (fun i σ' H' => ∃ G', Same G1 G' ∧ Same G' H' ∧ EnvD K G' σ' (P i) ∧ (V i).ok G' H') ⟨G1, Same.refl _, gh1, env_mono g1 en, j1⟩ (fun i σ' H' _ ⟨G', a1, a2, _⟩ => (a1.trans a2).seq s) (fun i x σ' H' hx ⟨G', a1, a2, a3, a4⟩ => ?_) (fun σ' H' ⟨G', a1, a2, a3, a4⟩ => ?_)⟩
    · have hi : i < xs.length := (List.getElem?_eq_some_iff.mp hx).1
      have hi2 : i < ds.length := by rw [← dpa_len r]; exact hi
      obtain ⟨w, h1, h2⟩ := dpa_get r (List.getElem?_eq_getElem hi2)
      rw [hx] at h1
      obtain rfl := Option.some.inj h1
      exact turn i _ (List.getElem?_eq_getElem hi2) G' H' _ _ a2 (env_set (d := .d _) (dp_mono a1 _ _ h2) a3) a4 fun G2 H2 σ2 g2 gh2 en2 j2 => ⟨G2, a1.trans g2, gh2, en2, j2⟩
    · rw [dpa_len r] at a3 a4
      exact f G' H' σ' (g1.trans a1) a2 a3 a4
/-! ### defs that change nothing -/
/-- the tables at T are known wherever J holds -/
class HasT (T : Tbs) (J : Asn) : Prop where
  get : ∀ G H, J.ok G H → TabsIn T G H
abbrev noT : Tbs := ⟨[], []⟩
instance : HasT noT J := ⟨fun _ _ _ => ⟨fun p hp => (by cases hp), fun p hp => (by cases hp)⟩⟩
instance {T : Tbs} [h : HasT T J] : HasT T (I.and J) := ⟨fun G H z => h.get G H z.2⟩
def Asn.tab (T : Tbs) : Asn := ⟨NoA, fun G H => TabsIn T G H, fun _ _ _ _ _ _ s h => h.go s, fun _ _ _ _ z => z.elim⟩
instance {T : Tbs} : HasT T (Asn.tab T) := ⟨fun _ _ z => z⟩
/-- R ds d: of the arguments ds it hands back d; the tables at T may grow -/
def spT (K : PySem.W.Frag) (T : Tbs) (R : List Dat → Dat → Prop) : Sp := fun vs H Q _ => ∃ G ds d, Same G H ∧ DvAll K G vs ds ∧ R ds d ∧ TabsIn T G H ∧ ∀ v G2 H2, Stp NoA G H G2 H2 → Dv K G2 v d → Q v H2
abbrev spP (K : PySem.W.Frag) (R : List Dat → Dat → Prop) : Sp := spT K noT R
theorem e_call {T : Tbs} {R : List Dat → Dat → Prop} {X : XK} {tr : TA} {ds : List Dat} [hT : HasT T J] (hr : A K tr ρ I ds J) (h : R ds d) : E K (tCall (spT K T R) [] X tr) ρ I d J := fun G H σ gh en io Q q => hr G H σ gh en io _ fun vs G1 H1 g1 gh1 j1 dvs => by
  rw [List.append_nil]
  exact ⟨G1, ds, d, gh1, dvs, h, hT.get _ _ j1, fun v G2 H2 s dv => q v G2 H2 (g1.trans s.gg) s.gh (Asn.pure_st s j1) dv⟩
theorem body_T {T : Tbs} {R : List Dat → Dat → Prop} {N : List Str} {vs : List V} {H : Hp} {Q : VK} {X : XK} (hb : ∀ ds d, R ds d → ∀ I, HasT T I → S K ts (ds.map some ++ List.replicate (N.length - ds.length) none) I (.rt d I)) (h : spT K T R vs H Q X) :
    ts { nx := fun _ H' => Q .non H', rt := Q } (L2.start N vs) H := by
  obtain ⟨G, ds, d, gh, dvs, r, tb, q⟩ := h
  refine hb ds d r ((Asn.since NoA G H).and (Asn.tab T)) inferInstance G H _ _ gh ?_ ⟨Stp.refl gh, tb⟩ fun v G2 H2 g2 gh2 j2 dv => q v G2 H2 j2.1 dv
  unfold L2.start
  rw [dva_len dvs]
  exact env_start _ dvs
theorem body_P {R : List Dat → Dat → Prop} {N : List Str} {vs : List V} {H : Hp} {Q : VK} {X : XK} (hb : ∀ ds d, R ds d → ∀ I, S K ts (ds.map some ++ List.replicate (N.length - ds.length) none) I (.rt d I)) (h : spP K R vs H Q X) :
    ts { nx := fun _ H' => Q .non H', rt := Q } (L2.start N vs) H := body_T (fun ds d r I _ => hb ds d r I) h
theorem len_P {T : Tbs} {R : List Dat → Dat → Prop} {n : Nat} (hl : ∀ ds d, R ds d → ds.length = n) {vs : List V} {H : Hp} {Q : VK} {X : XK} (h : spT K T R vs H Q X) : vs.length = n := by
  obtain ⟨G, ds, d, gh, dvs, r, _, q⟩ := h
  rw [dva_len dvs, hl ds d r]
end
end PL
namespace PL
open PySem PySem.Spec PyProof.Rows L2
variable [Nm]
/-! ### the drawing list -/
structure DS where
  a : Addr
  ns : List Int
  pos : Nat
  rest : Int
  seed : Int
def dO (S : DS) : HO := .lst [.ref S.a, .int (S.pos : Nat), .int S.rest, .int S.seed]
section
variable {K : PySem.W.Frag} {ρ ρ1 : Rho} {I J L N : Asn} {ta tb tc te : TE} {d e : Dat} {t u : TT} {b c : Bool} {p : Addr} {C C' : DS}
def dA (K : PySem.W.Frag) (p : Addr) (C : DS) : Asn := ⟨(· = p), fun G H => G p = none ∧ H p = some (dO C) ∧ SqL K G C.a (C.ns.map V.int), fun M G H G2 H2 n s h =>
  ⟨s.fr p _ (n p rfl) h.2.1 h.1, s.hh p _ (n p rfl) h.2.1, s.gg.seq h.2.2⟩, fun G H a h (z : a = p) => ⟨dO C, by rw [z]; exact h.2.1⟩⟩
abbrev dJ (K : PySem.W.Frag) (p : Addr) (C : DS) (J : Asn) : Asn := (dA K p C).and J
def dS (C : DS) : List Dat := [.d (.list (C.ns.map PyData.int)), .i (C.pos : Nat), .i C.rest, .i C.seed]
theorem e_dix {j : Nat} {x : Dat} (ha : E K ta ρ I (.r p) (dJ K p C J)) (hb : E K tb ρ (dJ K p C J) (.i (j : Nat)) (dJ K p C J)) (h : (dS C)[j]? = some x) : E K (tOp (rIxL K) ta tb) ρ I x (dJ K p C J) :=
  e_op ha hb fun G H v w gh lo dx dy Q q => by
    obtain rfl : v = .ref p := dx
    obtain rfl := dv_int dy
    obtain ⟨⟨l1, l2, l3⟩, l4⟩ := lo
    have done : ∀ y, atI [V.ref C.a, V.int (C.pos : Nat), V.int C.rest, V.int C.seed] (j : Int) = some y → Dv K G y x → rIxL K (.ref p) (.int (j : Int)) H Q := fun y hy dvy =>
      ⟨p, _, _, y, rfl, rfl, .inl (.inl l2), hy, q y G H (Same.refl _) gh ⟨⟨l1, l2, l3⟩, l4⟩ dvy⟩
    match j, h with
    | 0, h =>
      obtain rfl := Option.some.inj h
      exact done (.ref C.a) (atI_nat (j := 0) rfl) (.lst l3 (dpa_ints _))
    | 1, h =>
      obtain rfl := Option.some.inj h
      exact done _ (atI_nat (j := 1) rfl) (.int _)
    | 2, h =>
      obtain rfl := Option.some.inj h
      exact done _ (atI_nat (j := 2) rfl) (.int _)
    | 3, h =>
      obtain rfl := Option.some.inj h
      exact done _ (atI_nat (j := 3) rfl) (.int _)
    | n + 4, h => simp [dS] at h
/-- a store into it -/
theorem s_dset {x : Int} {j : Nat} (he : E K te ρ I (.i x) (dJ K p C J)) (ha : E K ta ρ (dJ K p C J) (.r p) (dJ K p C J)) (hb : E K tb ρ (dJ K p C J) (.i (j : Nat)) (dJ K p C J)) (hj : j < 4)
    (h : HO.lst ([V.ref C.a, V.int (C.pos : Nat), V.int C.rest, V.int C.seed].set j (.int x)) = dO C') (h2 : C'.a = C.a ∧ C'.ns = C.ns) (hf : ¬ J.foot p) :
    S K (tAsg te (gSub ta tb rSetL)) ρ I (.nx ρ (dJ K p C' J)) := fun G H σ D gh en io f => he G H σ gh en io _ fun v G1 H1 g1 gh1 j1 dv =>
  ha G1 H1 σ gh1 (env_mono g1 en) j1 _ fun o G2 H2 g2 gh2 j2 do_ => hb G2 H2 σ gh2 (env_mono (g1.trans g2) en) j2 _ fun i G3 H3 g3 gh3 j3 di => by
    obtain rfl := dv_int dv
    obtain rfl : o = .ref p := do_
    obtain rfl := dv_int di
    obtain ⟨⟨l1, l2, l3⟩, l4⟩ := j3
    have s := Stp.store (o := dO C') gh3 l1 l2
    refine ⟨p, _, (j : Int), j, rfl, rfl, l2, ?_, ?_⟩
    · unfold ixN
      rw [if_pos (by omega), if_pos (by show (j : Int) < (4 : Nat); omega)]
      simp
    · rw [h]
      refine f _ _ σ ((g1.trans g2).trans g3) s.gh (env_mono ((g1.trans g2).trans g3) en) ⟨⟨l1, upd_same, ?_⟩, J.st _ _ _ _ _ (fun a fa (z : a = p) => hf (z ▸ fa)) s l4⟩
      rw [h2.1, h2.2]
      exact l3
theorem e_int1 {i : Int} {tr : TA} (hr : A K tr ρ I [.i i] J) : E K (tCB (fun xs H Q => (∃ i, xs = [.int i] ∧ Q (.int i) H) ∨ ∃ k, xs = [.bl k] ∧ Q (.int (if k then 1 else 0)) H) tr) ρ I (.i i) J :=
  e_cb hr fun G H vs gh jo h Q q => by
    obtain ⟨v, rfl, h1⟩ := dva1 h
    obtain rfl := dv_int h1
    exact .inl ⟨i, rfl, q _ G H (Same.refl _) gh jo (.int _)⟩
theorem e_abs {i : Int} {tr : TA} (hr : A K tr ρ I [.i i] J) : E K (tCB (fun xs H Q => ∃ i, xs = [.int i] ∧ Q (.int (if i < 0 then -i else i)) H) tr) ρ I (.i (i.natAbs : Nat)) J :=
  e_cb hr fun G H vs gh jo h Q q => by
    obtain ⟨v, rfl, h1⟩ := dva1 h
    obtain rfl := dv_int h1
    refine ⟨i, rfl, ?_⟩
    have z : (if i < 0 then -i else i) = (i.natAbs : Int) := by
      split <;> omega
    rw [z]
    exact q _ G H (Same.refl _) gh jo (.int _)
/-- defs that draw: R ds C d C': of the arguments p, ds and the list as C they hand back d and leave it as C' -/
def spW (K : PySem.W.Frag) (R : List Dat → DS → Dat → DS → Prop) : Sp := fun vs H Q _ => ∃ G ds d p C C', Same G H ∧ DvAll K G vs (.r p :: ds) ∧ (dA K p C).ok G H ∧ R ds C d C' ∧ ∀ v G2 H2, Stp (· = p) G H G2 H2 → (dA K p C').ok G2 H2 → Dv K G2 v d → Q v H2
theorem e_draw {R : List Dat → DS → Dat → DS → Prop} {X : XK} {tr : TA} {ds : List Dat} (hr : A K tr ρ I (.r p :: ds) (dJ K p C J)) (h : R ds C d C') (hf : ¬ J.foot p) : E K (tCall (spW K R) [] X tr) ρ I d (dJ K p C' J) := fun G H σ gh en io Q q => hr G H σ gh en io _ fun vs G1 H1 g1 gh1 j1 dvs => by
  rw [List.append_nil]
  exact ⟨G1, ds, d, p, C, C', gh1, dvs, j1.1, h, fun v G2 H2 s k dv => q v G2 H2 (g1.trans s.gg) s.gh ⟨k, J.st _ _ _ _ _ (fun a fa (z : a = p) => hf (z ▸ fa)) s j1.2⟩ dv⟩
theorem body_W {ts : TS} {R : List Dat → DS → Dat → DS → Prop} {N : List Str} {vs : List V} {H : Hp} {Q : VK} {X : XK} (hb : ∀ ds C d C', R ds C d C' → ∀ p J, ¬ J.foot p → S K ts (some (.r p) :: (ds.map some ++ List.replicate (N.length - (ds.length + 1)) none)) (dJ K p C J) (.rt d (dJ K p C' J))) (h : spW K R vs H Q X) :
    ts { nx := fun _ H' => Q .non H', rt := Q } (L2.start N vs) H := by
  obtain ⟨G, ds, d, p, C, C', gh, dvs, k, r, q⟩ := h
  refine hb ds C d C' r p (Asn.since (· = p) G H) (fun z => z.1 rfl) G H _ _ gh ?_ ⟨k, Stp.refl gh⟩ fun v G2 H2 g2 gh2 j2 dv => q v G2 H2 j2.2 j2.1 dv
  unfold L2.start
  rw [dva_len dvs, List.length_cons]
  exact env_start (ds := .r p :: ds) _ dvs
theorem len_W {R : List Dat → DS → Dat → DS → Prop} {n : Nat} (hl : ∀ ds C d C', R ds C d C' → ds.length + 1 = n) {vs : List V} {H : Hp} {Q : VK} {X : XK} (h : spW K R vs H Q X) : vs.length = n := by
  obtain ⟨G, ds, d, p, C, C', gh, dvs, k, r, q⟩ := h
  rw [dva_len dvs, List.length_cons, hl ds C d C' r]
/-! ### the draws themselves -/
def take1 (C : DS) (m : Int) : Int × DS :=
  if 0 < C.rest then (C.rest % m, { C with rest := C.rest / m })
  else (((C.seed * 48271 + 11) % 2147483647 / 3) % m, { C with seed := (C.seed * 48271 + 11) % 2147483647 })
def take (C : DS) (m : Int) : Int × DS :=
  if C.rest = 0 ∧ C.pos < C.ns.length then
    if ((C.ns.getD C.pos 0).natAbs : Int) < 10 ^ 18 then (((C.ns.getD C.pos 0).natAbs : Int) % m, { C with pos := C.pos + 1, rest := 0 })
    else take1 { C with pos := C.pos + 1, rest := ((C.ns.getD C.pos 0).natAbs : Int) } m
  else take1 C m
structure DOk (C : DS) : Prop where
  r : 0 ≤ C.rest
  s : 0 ≤ C.seed ∧ C.seed < 2147483647
theorem take1_ok {C : DS} {m : Int} (h : DOk C) (hm : 0 < m) : DOk (take1 C m).2 ∧ 0 ≤ (take1 C m).1 ∧ (take1 C m).1 < m := by
  unfold take1
  split
  · exact ⟨⟨Int.ediv_nonneg h.r (Int.le_of_lt hm), h.s⟩, Int.emod_nonneg _ (by omega), Int.emod_lt_of_pos _ hm⟩
  · exact ⟨⟨h.r, Int.emod_nonneg _ (by decide), Int.emod_lt_of_pos _ (by decide)⟩, Int.emod_nonneg _ (by omega), Int.emod_lt_of_pos _ hm⟩
theorem take_ok {C : DS} {m : Int} (h : DOk C) (hm : 0 < m) : DOk (take C m).2 ∧ 0 ≤ (take C m).1 ∧ (take C m).1 < m := by
  unfold take
  split
  · split
    · exact ⟨⟨Int.le_refl _, h.s⟩, Int.emod_nonneg _ (by omega), Int.emod_lt_of_pos _ hm⟩
    · exact take1_ok ⟨by show (0 : Int) ≤ ((C.ns.getD C.pos 0).natAbs : Int); omega, h.s⟩ hm
  · exact take1_ok h hm
end
end PL
/-! Fractions as pairs of integers: the program's own sums and products are the lowest terms. Plain Lean. -/
namespace FR
abbrev F := Int × Int
def Nrm (a : F) : Prop := 0 < a.2 ∧ Int.gcd a.1 a.2 = 1
/-- the lowest terms of n over d, d above 0 -/
def nf (n d : Int) : F := (n / (Int.gcd n d : Int), d / (Int.gcd n d : Int))
def lf (n d : Int) : F := if d < 0 then nf (0 - n) (0 - d) else nf n d
theorem nf_nrm {n d : Int} (h : 0 < d) : Nrm (nf n d) := by
  have g0 : 0 < Int.gcd n d := Int.gcd_pos_of_ne_zero_right n (by omega)
  refine ⟨?_, Int.gcd_ediv_gcd_ediv_gcd g0⟩
  have dv : (Int.gcd n d : Int) ∣ d := Int.gcd_dvd_right n d
  exact Int.ediv_pos_of_pos_of_dvd h (by omega) dv
theorem lf_nrm {n d : Int} (h : d ≠ 0) : Nrm (lf n d) := by
  unfold lf
  split
  · exact nf_nrm (by omega)
  · exact nf_nrm (by omega)
theorem nf_mul1 {n d : Int} (h : 0 < d) : (nf n d).1 * d = n * (nf n d).2 := by
  have g0 : 0 < Int.gcd n d := Int.gcd_pos_of_ne_zero_right n (by omega)
  obtain ⟨x, hx⟩ := Int.gcd_dvd_left n d
  obtain ⟨y, hy⟩ := Int.gcd_dvd_right n d
  have e1 : n / (Int.gcd n d : Int) = x := by
    rw [Int.ediv_eq_of_eq_mul_right (by omega) hx]
  have e2 : d / (Int.gcd n d : Int) = y := by
    rw [Int.ediv_eq_of_eq_mul_right (by omega) hy]
  show n / (Int.gcd n d : Int) * d = n * (d / (Int.gcd n d : Int))
  rw [e1, e2]
  conv => lhs; rw [hy]
  conv => rhs; rw [hx]
  grind
/-- lowest terms are one -/
theorem nrm_one {a b : F} (ha : Nrm a) (hb : Nrm b) (h : a.1 * b.2 = b.1 * a.2) : a = b := by
  obtain ⟨a1, a2⟩ := a
  obtain ⟨b1, b2⟩ := b
  obtain ⟨pa, ga⟩ := ha
  obtain ⟨pb, gb⟩ := hb
  simp only at *
  have d1 : a2 ∣ b2 := by
    have z : a2 ∣ a1 * b2 := ⟨b1, by rw [h]; grind⟩
    exact (Int.dvd_gcd_mul_iff_dvd_mul (k := a2) (n := a1) (m := b2)).mpr z |> fun q => by
      rw [Int.gcd_comm, ga] at q
      simpa using q
  have d2 : b2 ∣ a2 := by
    have z : b2 ∣ b1 * a2 := ⟨a1, by rw [← h]; grind⟩
    exact (Int.dvd_gcd_mul_iff_dvd_mul (k := b2) (n := b1) (m := a2)).mpr z |> fun q => by
      rw [Int.gcd_comm, gb] at q
      simpa using q
  have e : a2 = b2 := Int.le_antisymm (Int.le_of_dvd pb d1) (Int.le_of_dvd pa d2)
  subst e
  have e2 : a1 = b1 := Int.eq_of_mul_eq_mul_right (by omega) h
  rw [e2]
theorem nf_of {a : F} {n d : Int} (ha : Nrm a) (hd : 0 < d) (h : a.1 * d = n * a.2) : a = nf n d := by
  refine nrm_one ha (nf_nrm hd) ?_
  have z := nf_mul1 (n := n) hd
  have w : (a.1 * (nf n d).2) * d = ((nf n d).1 * a.2) * d := by
    grind
  exact Int.eq_of_mul_eq_mul_right (by omega) w
/-! ### the program's own -/
def plusM (a b : F) : F :=
  let s : Int := (Int.gcd a.2 b.2 : Int)
  let t := a.2 / s
  let n := a.1 * (b.2 / s) + b.1 * t
  let v : Int := (Int.gcd n s : Int)
  (n / v, t * (b.2 / v))
def minusM (a b : F) : F := plusM a (-b.1, b.2)
def timesM (a b : F) : F :=
  let f : Int := (Int.gcd a.1 b.2 : Int)
  let s : Int := (Int.gcd b.1 a.2 : Int)
  ((a.1 / f) * (b.1 / s), (a.2 / s) * (b.2 / f))
theorem gcd_one_of {x y z : Int} (h : Int.gcd x y = 1) (d : z ∣ x) : Int.gcd z y = 1 := by
  have q := Int.gcd_dvd_gcd_of_dvd_left y d
  rw [h] at q
  exact Nat.dvd_one.mp q
theorem gcd_one_of2 {x y z : Int} (h : Int.gcd x y = 1) (d : z ∣ y) : Int.gcd x z = 1 := by
  rw [Int.gcd_comm] at h ⊢
  exact gcd_one_of h d
theorem gcd_add {x y k : Int} : Int.gcd (x + k * y) y = Int.gcd x y := by
  simp
theorem plus_nrm {a b : F} (ha : Nrm a) (hb : Nrm b) : Nrm (plusM a b) := by
  obtain ⟨x, p⟩ := a
  obtain ⟨y, q⟩ := b
  obtain ⟨pp, gp⟩ := ha
  obtain ⟨pq, gq⟩ := hb
  simp only at *
  have s0 : 0 < Int.gcd p q := Int.gcd_pos_of_ne_zero_right p (by omega)
  obtain ⟨p', hp⟩ := Int.gcd_dvd_left p q
  obtain ⟨q', hq⟩ := Int.gcd_dvd_right p q
  generalize hs : Int.gcd p q = s at *
  have ep : p / (s : Int) = p' := by rw [Int.ediv_eq_of_eq_mul_right (by omega) hp]
  have eq : q / (s : Int) = q' := by rw [Int.ediv_eq_of_eq_mul_right (by omega) hq]
  have pp' : 0 < p' := by
    rw [← ep]
    exact Int.ediv_pos_of_pos_of_dvd pp (by omega) ⟨p', hp⟩
  have pq' : 0 < q' := by
    rw [← eq]
    exact Int.ediv_pos_of_pos_of_dvd pq (by omega) ⟨q', hq⟩
  have cop : Int.gcd p' q' = 1 := by
    have z := Int.gcd_ediv_gcd_ediv_gcd (i := p) (j := q) (by rw [hs]; omega)
    rw [hs, ep, eq] at z
    exact z
  generalize hn : x * q' + y * p' = n
  have v0 : 0 < Int.gcd n (s : Int) := Int.gcd_pos_of_ne_zero_right n (by omega)
  have vd : (Int.gcd n (s : Int) : Int) ∣ (s : Int) := Int.gcd_dvd_right n s
  have vn : (Int.gcd n (s : Int) : Int) ∣ n := Int.gcd_dvd_left n s
  have cq : Int.gcd (n / (Int.gcd n (s : Int) : Int)) ((s : Int) / (Int.gcd n (s : Int) : Int)) = 1 := Int.gcd_ediv_gcd_ediv_gcd v0
  have dn : n / (Int.gcd n (s : Int) : Int) ∣ n := ⟨(Int.gcd n (s : Int) : Int), (Int.ediv_mul_cancel vn).symm⟩
  have np' : Int.gcd n p' = 1 := by
    have e1 : Int.gcd n p' = Int.gcd (x * q') p' := by
      rw [← hn]
      exact gcd_add
    have e2 : Int.gcd x p' = 1 := gcd_one_of2 gp ⟨s, by rw [hp]; grind⟩
    rw [e1, Int.gcd_mul_right_left_of_gcd_eq_one e2, Int.gcd_comm]
    exact cop
  have nq' : Int.gcd n q' = 1 := by
    have e1 : Int.gcd n q' = Int.gcd (y * p') q' := by
      rw [← hn, Int.add_comm]
      exact gcd_add
    have e2 : Int.gcd y q' = 1 := gcd_one_of2 gq ⟨s, by rw [hq]; grind⟩
    rw [e1, Int.gcd_mul_right_left_of_gcd_eq_one e2]
    exact cop
  have eqv : q / (Int.gcd n (s : Int) : Int) = q' * ((s : Int) / (Int.gcd n (s : Int) : Int)) := by
    rw [hq, Int.mul_comm, Int.mul_ediv_assoc _ vd]
  show 0 < (p / (Int.gcd p q : Int)) * (q / (Int.gcd (x * (q / (Int.gcd p q : Int)) + y * (p / (Int.gcd p q : Int))) (Int.gcd p q : Int) : Int)) ∧ Int.gcd ((x * (q / (Int.gcd p q : Int)) + y * (p / (Int.gcd p q : Int))) / (Int.gcd (x * (q / (Int.gcd p q : Int)) + y * (p / (Int.gcd p q : Int))) (Int.gcd p q : Int) : Int)) ((p / (Int.gcd p q : Int)) * (q / (Int.gcd (x * (q / (Int.gcd p q : Int)) + y * (p / (Int.gcd p q : Int))) (Int.gcd p q : Int) : Int))) = 1
  rw [hs, ep, eq, hn, eqv]
  have psv : 0 < (s : Int) / (Int.gcd n (s : Int) : Int) := Int.ediv_pos_of_pos_of_dvd (by omega) (by omega) vd
  refine ⟨Int.mul_pos pp' (Int.mul_pos pq' psv), ?_⟩
  rw [Int.gcd_mul_right_right_of_gcd_eq_one (gcd_one_of np' dn), Int.gcd_mul_right_right_of_gcd_eq_one (gcd_one_of nq' dn)]
  exact cq
theorem plus_eq {a b : F} (ha : Nrm a) (hb : Nrm b) : plusM a b = nf (a.1 * b.2 + b.1 * a.2) (a.2 * b.2) := by
  refine nf_of (plus_nrm ha hb) (Int.mul_pos ha.1 hb.1) ?_
  obtain ⟨x, p⟩ := a
  obtain ⟨y, q⟩ := b
  obtain ⟨pp, gp⟩ := ha
  obtain ⟨pq, gq⟩ := hb
  simp only at *
  have s0 : 0 < Int.gcd p q := Int.gcd_pos_of_ne_zero_right p (by omega)
  obtain ⟨p', hp⟩ := Int.gcd_dvd_left p q
  obtain ⟨q', hq⟩ := Int.gcd_dvd_right p q
  generalize hs : Int.gcd p q = s at *
  have ep : p / (s : Int) = p' := by rw [Int.ediv_eq_of_eq_mul_right (by omega) hp]
  have eq : q / (s : Int) = q' := by rw [Int.ediv_eq_of_eq_mul_right (by omega) hq]
  generalize hn : x * q' + y * p' = n
  have v0 : 0 < Int.gcd n (s : Int) := Int.gcd_pos_of_ne_zero_right n (by omega)
  obtain ⟨n', vn⟩ := Int.gcd_dvd_left n (s : Int)
  obtain ⟨s', vs⟩ := Int.gcd_dvd_right n (s : Int)
  generalize hv : Int.gcd n (s : Int) = v at *
  have en : n / (v : Int) = n' := by rw [Int.ediv_eq_of_eq_mul_right (by omega) vn]
  have eqv : q / (v : Int) = s' * q' := by
    rw [Int.ediv_eq_of_eq_mul_right (by omega) (show q = (v : Int) * (s' * q') by rw [← Int.mul_assoc, ← vs, ← hq])]
  show ((x * (q / (Int.gcd p q : Int)) + y * (p / (Int.gcd p q : Int))) / (Int.gcd (x * (q / (Int.gcd p q : Int)) + y * (p / (Int.gcd p q : Int))) (Int.gcd p q : Int) : Int)) * (p * q) = (x * q + y * p) * ((p / (Int.gcd p q : Int)) * (q / (Int.gcd (x * (q / (Int.gcd p q : Int)) + y * (p / (Int.gcd p q : Int))) (Int.gcd p q : Int) : Int)))
  rw [hs, ep, eq, hn, hv, en, eqv]
  have e1 : x * q + y * p = (s : Int) * n := by
    rw [← hn, hp, hq]
    grind
  rw [e1, hp, hq, vn]
  conv => lhs; rw [vs]
  conv => rhs; rw [vs]
  grind
theorem times_nrm {a b : F} (ha : Nrm a) (hb : Nrm b) : Nrm (timesM a b) := by
  obtain ⟨x, p⟩ := a
  obtain ⟨y, q⟩ := b
  obtain ⟨pp, gp⟩ := ha
  obtain ⟨pq, gq⟩ := hb
  simp only at *
  have f0 : 0 < Int.gcd x q := Int.gcd_pos_of_ne_zero_right x (by omega)
  have s0 : 0 < Int.gcd y p := Int.gcd_pos_of_ne_zero_right y (by omega)
  have d1 := Int.gcd_dvd_left x q
  have d2 := Int.gcd_dvd_right x q
  have d3 := Int.gcd_dvd_left y p
  have d4 := Int.gcd_dvd_right y p
  have c1 : Int.gcd (x / (Int.gcd x q : Int)) (q / (Int.gcd x q : Int)) = 1 := Int.gcd_ediv_gcd_ediv_gcd f0
  have c2 : Int.gcd (y / (Int.gcd y p : Int)) (p / (Int.gcd y p : Int)) = 1 := Int.gcd_ediv_gcd_ediv_gcd s0
  have m1 : x / (Int.gcd x q : Int) ∣ x := ⟨_, (Int.ediv_mul_cancel d1).symm⟩
  have m2 : q / (Int.gcd x q : Int) ∣ q := ⟨_, (Int.ediv_mul_cancel d2).symm⟩
  have m3 : y / (Int.gcd y p : Int) ∣ y := ⟨_, (Int.ediv_mul_cancel d3).symm⟩
  have m4 : p / (Int.gcd y p : Int) ∣ p := ⟨_, (Int.ediv_mul_cancel d4).symm⟩
  have c3 : Int.gcd (x / (Int.gcd x q : Int)) (p / (Int.gcd y p : Int)) = 1 := gcd_one_of (gcd_one_of2 gp m4) m1
  have c4 : Int.gcd (y / (Int.gcd y p : Int)) (q / (Int.gcd x q : Int)) = 1 := gcd_one_of (gcd_one_of2 gq m2) m3
  refine ⟨Int.mul_pos (Int.ediv_pos_of_pos_of_dvd pp (by omega) d4) (Int.ediv_pos_of_pos_of_dvd pq (by omega) d2), ?_⟩
  show Int.gcd ((x / (Int.gcd x q : Int)) * (y / (Int.gcd y p : Int))) ((p / (Int.gcd y p : Int)) * (q / (Int.gcd x q : Int))) = 1
  have t1 : Int.gcd ((x / (Int.gcd x q : Int)) * (y / (Int.gcd y p : Int))) (p / (Int.gcd y p : Int)) = 1 := by
    rw [Int.gcd_mul_right_left_of_gcd_eq_one c3]
    exact c2
  rw [Int.gcd_mul_right_right_of_gcd_eq_one t1, Int.gcd_mul_right_left_of_gcd_eq_one c1]
  exact c4
theorem times_eq {a b : F} (ha : Nrm a) (hb : Nrm b) : timesM a b = nf (a.1 * b.1) (a.2 * b.2) := by
  refine nf_of (times_nrm ha hb) (Int.mul_pos ha.1 hb.1) ?_
  obtain ⟨x, p⟩ := a
  obtain ⟨y, q⟩ := b
  obtain ⟨pp, gp⟩ := ha
  obtain ⟨pq, gq⟩ := hb
  simp only at *
  have f0 : 0 < Int.gcd x q := Int.gcd_pos_of_ne_zero_right x (by omega)
  have s0 : 0 < Int.gcd y p := Int.gcd_pos_of_ne_zero_right y (by omega)
  obtain ⟨x', h1⟩ := Int.gcd_dvd_left x q
  obtain ⟨q', h2⟩ := Int.gcd_dvd_right x q
  obtain ⟨y', h3⟩ := Int.gcd_dvd_left y p
  obtain ⟨p', h4⟩ := Int.gcd_dvd_right y p
  show ((x / (Int.gcd x q : Int)) * (y / (Int.gcd y p : Int))) * (p * q) = (x * y) * ((p / (Int.gcd y p : Int)) * (q / (Int.gcd x q : Int)))
  generalize hf : Int.gcd x q = f at *
  generalize hs : Int.gcd y p = s at *
  have e1 : x / (f : Int) = x' := by rw [Int.ediv_eq_of_eq_mul_right (by omega) h1]
  have e2 : q / (f : Int) = q' := by rw [Int.ediv_eq_of_eq_mul_right (by omega) h2]
  have e3 : y / (s : Int) = y' := by rw [Int.ediv_eq_of_eq_mul_right (by omega) h3]
  have e4 : p / (s : Int) = p' := by rw [Int.ediv_eq_of_eq_mul_right (by omega) h4]
  rw [e1, e2, e3, e4, h1, h2, h3, h4]
  grind
theorem neg_nrm {b : F} (hb : Nrm b) : Nrm (-b.1, b.2) := ⟨hb.1, by
  show Int.gcd (-b.1) b.2 = 1
  rw [Int.neg_gcd]
  exact hb.2⟩
theorem minus_eq {a b : F} (ha : Nrm a) (hb : Nrm b) : minusM a b = nf (a.1 * b.2 - b.1 * a.2) (a.2 * b.2) := by
  unfold minusM
  rw [plus_eq ha (neg_nrm hb)]
  show nf (a.1 * b.2 + -b.1 * a.2) (a.2 * b.2) = _
  rw [Int.neg_mul, ← Int.sub_eq_add_neg]
theorem minus_nrm {a b : F} (ha : Nrm a) (hb : Nrm b) : Nrm (minusM a b) := plus_nrm ha (neg_nrm hb)
/-! ### sizes -/
def Sz (n : Nat) (a : F) : Prop := a.1.natAbs < 2 ^ n ∧ a.2.natAbs < 2 ^ n
theorem sz_le {x : Int} {m n : Nat} (h : x.natAbs < 2 ^ m) (hm : m ≤ n) : x.natAbs < 2 ^ n := Nat.lt_of_lt_of_le h (Nat.pow_le_pow_right (by decide) hm)
theorem Sz.mono {m n : Nat} {a : F} (h : Sz m a) (hm : m ≤ n) : Sz n a := ⟨sz_le h.1 hm, sz_le h.2 hm⟩
theorem sz_mul {x y : Int} {m n : Nat} (h : x.natAbs < 2 ^ m) (k : y.natAbs < 2 ^ n) : (x * y).natAbs < 2 ^ (m + n) := by
  rw [Int.natAbs_mul, Nat.pow_add]
  exact Nat.mul_lt_mul'' h k
theorem sz_add {x y : Int} {m : Nat} (h : x.natAbs < 2 ^ m) (k : y.natAbs < 2 ^ m) : (x + y).natAbs < 2 ^ (m + 1) := by
  rw [Nat.pow_succ]
  omega
theorem sz_sub {x y : Int} {m : Nat} (h : x.natAbs < 2 ^ m) (k : y.natAbs < 2 ^ m) : (x - y).natAbs < 2 ^ (m + 1) := by
  rw [Nat.pow_succ]
  omega
theorem sz_neg {x : Int} {m : Nat} (h : x.natAbs < 2 ^ m) : (-x).natAbs < 2 ^ m := by
  rw [Int.natAbs_neg]
  exact h
theorem sz_div {x y : Int} {m : Nat} (h : x.natAbs < 2 ^ m) (d : y ∣ x) : (x / y).natAbs < 2 ^ m := by
  rw [Int.natAbs_ediv_of_dvd d]
  exact Nat.lt_of_le_of_lt (Nat.div_le_self _ _) h
theorem sz_gcd {x y : Int} {m : Nat} (h : y.natAbs < 2 ^ m) (hy : y ≠ 0) : ((Int.gcd x y : Nat) : Int).natAbs < 2 ^ m := Nat.lt_of_le_of_lt (by rw [Int.natAbs_natCast]; exact Int.gcd_le_natAbs_right x hy) h
theorem sz_nf {n d : Int} {m : Nat} (h : n.natAbs < 2 ^ m) (k : d.natAbs < 2 ^ m) : Sz m (nf n d) := ⟨sz_div h (Int.gcd_dvd_left n d), sz_div k (Int.gcd_dvd_right n d)⟩
theorem sz_plus {a b : F} {m n : Nat} (ha : Nrm a) (hb : Nrm b) (h : Sz m a) (k : Sz n b) : Sz (m + n + 1) (plusM a b) := by
  rw [plus_eq ha hb]
  refine sz_nf (sz_add (sz_mul h.1 k.2) ?_) (sz_le (sz_mul h.2 k.2) (by omega))
  rw [Nat.add_comm m n]
  exact sz_mul k.1 h.2
theorem sz_minus {a b : F} {m n : Nat} (ha : Nrm a) (hb : Nrm b) (h : Sz m a) (k : Sz n b) : Sz (m + n + 1) (minusM a b) := sz_plus ha (neg_nrm hb) h ⟨sz_neg k.1, k.2⟩
theorem sz_times {a b : F} {m n : Nat} (ha : Nrm a) (hb : Nrm b) (h : Sz m a) (k : Sz n b) : Sz (m + n) (timesM a b) := by
  rw [times_eq ha hb]
  exact sz_nf (sz_mul h.1 k.1) (sz_mul h.2 k.2)
/-! ### the law's own gcd -/
theorem gcd_step (a b : Int) : Int.gcd b (a % b) = Int.gcd a b := by
  have e : a % b = a + (-(a / b)) * b := by
    rw [Int.emod_def]
    grind
  rw [Int.gcd_comm, e, gcd_add]
/-! ### the law's own -/
def lplus (a b : F) : F := lf (a.1 * b.2 + b.1 * a.2) (a.2 * b.2)
def lminus (a b : F) : F := lf (a.1 * b.2 - b.1 * a.2) (a.2 * b.2)
def ltimes (a b : F) : F := lf (a.1 * b.1) (a.2 * b.2)
theorem lf_pos {n d : Int} (h : 0 < d) : lf n d = nf n d := by
  unfold lf
  exact if_neg (by omega)
theorem lplus_eq {a b : F} (ha : Nrm a) (hb : Nrm b) : lplus a b = plusM a b := by
  unfold lplus
  rw [lf_pos (Int.mul_pos ha.1 hb.1), plus_eq ha hb]
theorem lminus_eq {a b : F} (ha : Nrm a) (hb : Nrm b) : lminus a b = minusM a b := by
  unfold lminus
  rw [lf_pos (Int.mul_pos ha.1 hb.1), minus_eq ha hb]
theorem ltimes_eq {a b : F} (ha : Nrm a) (hb : Nrm b) : ltimes a b = timesM a b := by
  unfold ltimes
  rw [lf_pos (Int.mul_pos ha.1 hb.1), times_eq ha hb]
/-! ### order, quotients -/
def less (a b : F) : Bool := decide (a.1 * b.2 < b.1 * a.2)
def cmpM (a b : F) : Int := if a.1 * b.2 < b.1 * a.2 then -1 else if b.1 * a.2 < a.1 * b.2 then 1 else 0
theorem le_trans {a b c : F} (ha : 0 < a.2) (hb : 0 < b.2) (hc : 0 < c.2) (h1 : a.1 * b.2 ≤ b.1 * a.2) (h2 : b.1 * c.2 ≤ c.1 * b.2) : a.1 * c.2 ≤ c.1 * a.2 := by
  have z1 : a.1 * b.2 * c.2 ≤ b.1 * a.2 * c.2 := Int.mul_le_mul_of_nonneg_right h1 (by omega)
  have z2 : b.1 * c.2 * a.2 ≤ c.1 * b.2 * a.2 := Int.mul_le_mul_of_nonneg_right h2 (by omega)
  have z3 : (a.1 * c.2) * b.2 ≤ (c.1 * a.2) * b.2 := by grind
  exact Int.le_of_mul_le_mul_right z3 hb
/-- the best of a row, by «is i before b» -/
def bestL (f : F → F → Bool) : F → List F → F := List.foldl fun b i => if f i b then i else b
theorem bestL_snoc (f : F → F → Bool) (x : F) (xs : List F) (i : F) : bestL f x (xs ++ [i]) = if f i (bestL f x xs) then i else bestL f x xs := by
  unfold bestL
  rw [List.foldl_append]
  rfl
theorem bestL_mem (f : F → F → Bool) : ∀ (xs : List F) (x : F), bestL f x xs = x ∨ bestL f x xs ∈ xs
  | [], x => .inl rfl
  | i :: xs, x => by
    have e : bestL f x (i :: xs) = bestL f (if f i x then i else x) xs := rfl
    rw [e]
    rcases bestL_mem f xs (if f i x then i else x) with h | h
    · rw [h]
      by_cases c : f i x = true
      · rw [if_pos c]
        exact .inr List.mem_cons_self
      · rw [if_neg c]
        exact .inl rfl
    · exact .inr (List.mem_cons_of_mem _ h)
/-! ### quotients -/
def invM (b : F) : F := if b.1 < 0 then (-b.2, -b.1) else (b.2, b.1)
def overM (a b : F) : F := timesM a (invM b)
theorem inv_nrm {b : F} (hb : Nrm b) (h : b.1 ≠ 0) : Nrm (invM b) := by
  unfold invM
  split
  · refine ⟨by show 0 < -b.1; omega, ?_⟩
    show Int.gcd (-b.2) (-b.1) = 1
    rw [Int.neg_gcd, Int.gcd_neg, Int.gcd_comm]
    exact hb.2
  · refine ⟨by show 0 < b.1; omega, ?_⟩
    show Int.gcd b.2 b.1 = 1
    rw [Int.gcd_comm]
    exact hb.2
theorem over_nrm {a b : F} (ha : Nrm a) (hb : Nrm b) (h : b.1 ≠ 0) : Nrm (overM a b) := times_nrm ha (inv_nrm hb h)
theorem lf_cross {n d : Int} (h : d ≠ 0) : (lf n d).1 * d = n * (lf n d).2 := by
  unfold lf
  split
  · rename_i c
    have z := nf_mul1 (n := 0 - n) (show 0 < 0 - d by omega)
    grind
  · exact nf_mul1 (by omega)
end FR
namespace PL
open PySem PySem.Spec PyProof.Rows L2 FR
variable [Nm]
section
variable {K : PySem.W.Frag} {G : Hp}
theorem dpa_ints_inv : ∀ (ns : List Int) (xs : List V), DpAll K G xs (ns.map PyData.int) → xs = ns.map V.int
  | [], _, r => by
    cases r
    rfl
  | n :: ns, _, r => by
    cases r with
    | cons r1 r2 =>
      cases r1
      rw [dpa_ints_inv ns _ r2, List.map_cons]
theorem dpa_at {vs : List V} {ds : List PyData} {i : Int} {x : PyData} (r : DpAll K G vs ds) (h : atI ds i = some x) : ∃ v, atI vs i = some v ∧ Dp K G v x := by
  unfold atI at h ⊢
  rw [dpa_len r]
  cases e : ixN ds.length i with
  | none => rw [e] at h; simp at h
  | some j =>
    rw [e] at h
    exact dpa_get r h
end
section
variable {K : PySem.W.Frag} {ρ ρ1 : Rho} {I J L N : Asn} {ta tb tc te : TE} {d e : Dat} {t u : TT} {b c : Bool} {p : Addr} {C C' : DS}
theorem e_ixT' {ds : List PyData} {i : Int} {x : PyData} (ha : E K ta ρ I (.t ds) J) (hb : E K tb ρ J (.i i) L) (h : atI ds i = some x) : E K (tOp (rIxT K) ta tb) ρ I (.d x) L :=
  e_op ha hb fun G H a b gh lo dx dy Q q => by
    cases dx with
    | tup s r =>
      obtain rfl := dv_int dy
      obtain ⟨v, h1, h2⟩ := dpa_at r h
      exact ⟨_, _, _, v, rfl, rfl, same_t gh s, h1, q v G H (Same.refl _) gh lo h2⟩
theorem e_ixL' {ds : List PyData} {i : Int} {x : PyData} (ha : E K ta ρ I (.d (.list ds)) J) (hb : E K tb ρ J (.i i) L) (h : atI ds i = some x) : E K (tOp (rIxL K) ta tb) ρ I (.d x) L :=
  e_op ha hb fun G H a b gh lo dx dy Q q => by
    cases dx with
    | lst s r =>
      obtain rfl := dv_int dy
      obtain ⟨v, h1, h2⟩ := dpa_at r h
      exact ⟨_, _, _, v, rfl, rfl, gh.seq s, h1, q v G H (Same.refl _) gh lo h2⟩
/-! ### fractions as data -/
abbrev fr (a : F) : PyData := .tuple [.int a.1, .int a.2]
theorem e_f1 {a : F} (ha : E K ta ρ I (.d (fr a)) J) (hb : E K tb ρ J (.i 0) L) : E K (tOp (rIxT K) ta tb) ρ I (.i a.1) L := e_ixT' ha hb rfl
theorem e_f2 {a : F} (ha : E K ta ρ I (.d (fr a)) J) (hb : E K tb ρ J (.i 1) L) : E K (tOp (rIxT K) ta tb) ρ I (.i a.2) L := e_ixT' ha hb rfl
theorem e_frac {tr : TA} {x y : Int} {a : F} (hr : A K tr ρ I [.i x, .i y] J) (h : a = (x, y)) : E K (tTup tr) ρ I (.d (fr a)) J := by
  subst h
  exact e_tup hr (.cons (.cons .nil)) (show 2 ≤ 100000 by decide)
/-- a fraction in lowest terms below 2 ^ n -/
structure Ok (n : Nat) (a : F) : Prop where
  nrm : Nrm a
  sz : Sz n a
theorem Ok.mono {m n : Nat} {a : F} (h : Ok m a) (hm : m ≤ n) : Ok n a := ⟨h.nrm, h.sz.mono hm⟩
theorem ok_plus {m n : Nat} {a b : F} (h : Ok m a) (k : Ok n b) : Ok (m + n + 1) (plusM a b) := ⟨plus_nrm h.nrm k.nrm, sz_plus h.nrm k.nrm h.sz k.sz⟩
theorem ok_minus {m n : Nat} {a b : F} (h : Ok m a) (k : Ok n b) : Ok (m + n + 1) (minusM a b) := ⟨minus_nrm h.nrm k.nrm, sz_minus h.nrm k.nrm h.sz k.sz⟩
theorem ok_times {m n : Nat} {a b : F} (h : Ok m a) (k : Ok n b) : Ok (m + n) (timesM a b) := ⟨times_nrm h.nrm k.nrm, sz_times h.nrm k.nrm h.sz k.sz⟩
theorem ok_neg {n : Nat} {b : F} (k : Ok n b) : Ok n (-b.1, b.2) := ⟨neg_nrm k.nrm, sz_neg k.sz.1, k.sz.2⟩
theorem ok_lf {n : Nat} {x y : Int} (hy : y ≠ 0) (hx : x.natAbs < 2 ^ n) (hz : y.natAbs < 2 ^ n) : Ok n (lf x y) := by
  refine ⟨lf_nrm hy, ?_⟩
  unfold lf
  split
  · exact sz_nf (by rw [Int.zero_sub, Int.natAbs_neg]; exact hx) (by rw [Int.zero_sub, Int.natAbs_neg]; exact hz)
  · exact sz_nf hx hz
theorem divW {i j : Int} {n : Nat} (h : 0 < j) (hb : j.natAbs < 2 ^ n) (hn : n ≤ 9000) : CDivW i j := wide_div (b := 9000) h (sz_le hb hn) (by decide) (by decide)
theorem mulW {i j : Int} {m n : Nat} (ha : i.natAbs < 2 ^ m) (hb : j.natAbs < 2 ^ n) (h : m + n ≤ 900000) : CMulW i j := wide_mul (a := m + 1) (b := n + 1) (sz_le ha (by omega)) (sz_le hb (by omega)) (by omega) (by omega) (by omega)
/-! ### what the common defs promise -/
def RPlus (f : F → F → F) (ds : List Dat) (d : Dat) : Prop := ∃ a b : F, ds = [.d (fr a), .d (fr b)] ∧ Ok 4000 a ∧ Ok 4000 b ∧ d = .d (fr (f a b))
theorem RPlus.mk {f : F → F → F} {a b : F} {m n : Nat} (ha : Ok m a) (hb : Ok n b) (hm : m ≤ 4000 := by omega) (hn : n ≤ 4000 := by omega) : RPlus f [.d (fr a), .d (fr b)] (.d (fr (f a b))) := ⟨a, b, rfl, ha.mono hm, hb.mono hn, rfl⟩
theorem RPlus.len {f : F → F → F} {ds : List Dat} {d : Dat} (h : RPlus f ds d) : ds.length = 2 := by
  obtain ⟨a, b, rfl, _⟩ := h
  rfl
def RGcd (ds : List Dat) (d : Dat) : Prop := ∃ x y : Int, ds = [.i x, .i y] ∧ 0 ≤ x ∧ 0 ≤ y ∧ d = .i (Int.gcd x y : Int)
def RF (ds : List Dat) (d : Dat) : Prop := ∃ x y : Int, ds = [.i x, .i y] ∧ y ≠ 0 ∧ x.natAbs < 2 ^ 8500 ∧ y.natAbs < 2 ^ 8500 ∧ d = .d (fr (lf x y))
theorem RF.mk {x y : Int} {m n : Nat} (h0 : y ≠ 0) (hx : x.natAbs < 2 ^ m) (hy : y.natAbs < 2 ^ n) (hm : m ≤ 8500 := by omega) (hn : n ≤ 8500 := by omega) : RF [.i x, .i y] (.d (fr (lf x y))) := ⟨x, y, rfl, h0, sz_le hx hm, sz_le hy hn, rfl⟩
def RTake (ds : List Dat) (C : DS) (d : Dat) (C' : DS) : Prop := ∃ m : Int, ds = [.i m] ∧ DOk C ∧ 0 < m ∧ m.natAbs < 2 ^ 8500 ∧ d = .i (take C m).1 ∧ C' = (take C m).2
/-- draws from -m to m -/
def RSigned (ds : List Dat) (C : DS) (d : Dat) (C' : DS) : Prop := ∃ m : Int, ds = [.i m] ∧ DOk C ∧ 0 ≤ m ∧ m.natAbs < 2 ^ 8000 ∧ d = .i ((take C (2 * m + 1)).1 - m) ∧ C' = (take C (2 * m + 1)).2
def partM (C : DS) (m : Int) : F × DS :=
  let p := take C (2 * (m * 2) + 1)
  let q := take p.2 3
  (lf (p.1 - m * 2) (1 + q.1), q.2)
def RPart (ds : List Dat) (C : DS) (d : Dat) (C' : DS) : Prop := ∃ m : Int, ds = [.i m] ∧ DOk C ∧ 0 ≤ m ∧ m.natAbs < 2 ^ 7000 ∧ d = .d (fr (partM C m).1) ∧ C' = (partM C m).2
theorem part_ok {C : DS} {m : Int} {n : Nat} (h : DOk C) (hm : 0 ≤ m) (hn : m.natAbs < 2 ^ n) : DOk (partM C m).2 ∧ Ok (n + 2) (partM C m).1 := by
  obtain ⟨h1, h2, h3⟩ := take_ok (C := C) (m := 2 * (m * 2) + 1) h (by omega)
  obtain ⟨h4, h5, h6⟩ := take_ok (C := (take C (2 * (m * 2) + 1)).2) (m := 3) h1 (by omega)
  refine ⟨h4, ok_lf ?_ ?_ ?_⟩
  · omega
  · have : (2 : Nat) ^ (n + 2) = 4 * 2 ^ n := by rw [Nat.pow_add]; omega
    omega
  · have : (2 : Nat) ^ (n + 2) = 4 * 2 ^ n := by rw [Nat.pow_add]; omega
    have := Nat.one_le_two_pow (n := n)
    omega
def vecM (C : DS) (m : Int) : (F × F) × DS :=
  let p := partM C m
  let q := partM p.2 m
  ((p.1, q.1), q.2)
theorem vec_ok {C : DS} {m : Int} {n : Nat} (h : DOk C) (hm : 0 ≤ m) (hn : m.natAbs < 2 ^ n) : DOk (vecM C m).2 ∧ Ok (n + 2) (vecM C m).1.1 ∧ Ok (n + 2) (vecM C m).1.2 :=
  ⟨(part_ok (part_ok h hm hn).1 hm hn).1, (part_ok h hm hn).2, (part_ok (part_ok h hm hn).1 hm hn).2⟩
def RVec (ds : List Dat) (C : DS) (d : Dat) (C' : DS) : Prop := ∃ m : Int, ds = [.i m] ∧ DOk C ∧ 0 ≤ m ∧ m.natAbs < 2 ^ 7000 ∧ d = .d (.tuple [fr (vecM C m).1.1, fr (vecM C m).1.2]) ∧ C' = (vecM C m).2
/-- the script's list at the law's beginning -/
def spBegin (K : PySem.W.Frag) : Sp := fun vs H Q _ => ∃ (a : Addr) (ns : List Int) (G : Hp), vs = [.ref a] ∧ Same G H ∧ SqL K G a (ns.map V.int) ∧ ∀ G2 H2 p C, Stp NoA G H G2 H2 → DOk C → G2 p = none → H p = none → (dA K p C).ok G2 H2 → Q (.ref p) H2
theorem s_beginT {ts : TS} {X : XK} {tr : TA} {ns : List Int} {i : Nat} {k : Out} (hr : A K tr ρ I [.d (.list (ns.map PyData.int))] I) (h : ∀ p C, DOk C → ¬ I.foot p → S K ts (ρ.set i (some (.r p))) (dJ K p C I) k) : S K (tSeq (tAsg (tCall (spBegin K) [] X tr) (gName i)) ts) ρ I k := fun G H σ D gh en io f => hr G H σ gh en io _ fun vs G1 H1 g1 gh1 j1 dvs => by
  rw [List.append_nil]
  obtain ⟨v, rfl, h1⟩ := dva1 dvs
  cases h1 with
  | lst s r =>
    rename_i a xs
    obtain rfl := dpa_ints_inv ns xs r
    refine ⟨a, ns, G1, rfl, gh1, s, fun G2 H2 p C st ok gp hp k => ?_⟩
    refine h p C ok (fun z => ?_) G2 H2 _ D st.gh (env_set (d := .r p) rfl (env_mono (g1.trans st.gg) en)) ⟨k, Asn.pure_st st j1⟩ (f.mono (g1.trans st.gg))
    obtain ⟨o, ho⟩ := I.own G1 H1 p j1 z
    rw [ho] at hp
    cases hp
theorem s_rtT {ts : TS} (h : S K ts ρ I (.rt d J)) : S K ts ρ I (.rt d .tt) := fun G H σ D gh en io f => h G H σ D gh en io fun v G2 H2 g2 gh2 _ dv => f v G2 H2 g2 gh2 trivial dv
end
theorem gcd_abs {x y : Int} : Int.gcd (x.natAbs : Int) y = Int.gcd x y := by simp [Int.gcd]
theorem cxK {CX : CXT} {P : Program} {w : World} {K : PySem.W.Frag} {mg : Str → Option Value} {base : Heap} {N : List Str} {q : Str} {sc : Scope} {f : Addr} {cd : Value} {A : Around} {o : List Env} {s : Shared} {H : Hp} {E : XK} :
    (cxOf CX P w K mg base N q sc f cd A o s H E).K = K := rfl
section
variable {K : PySem.W.Frag} {ρ ρ1 : Rho} {I : Asn} {ta tb tc te : TE} {d e : Dat} {t u : TT} {b c : Bool} {ts us : TS} {k : Out}
/-! ### the same where nothing changes -/
theorem p_cons {tr : TA} {ds : List Dat} (ha : E K ta ρ I d I) (hr : A K tr ρ I ds I) : A K (tCons ta tr) ρ I (d :: ds) I := a_cons ha hr
theorem p_f1 {a : F} (ha : E K ta ρ I (.d (fr a)) I) : E K (tOp (rIxT K) ta (tC (.int 0))) ρ I (.i a.1) I := e_f1 ha e_int
theorem p_f2 {a : F} (ha : E K ta ρ I (.d (fr a)) I) : E K (tOp (rIxT K) ta (tC (.int 1))) ρ I (.i a.2) I := e_f2 ha e_int
theorem p_add {i j : Int} (ha : E K ta ρ I (.i i) I) (hb : E K tb ρ I (.i j) I) : E K (tOp (rI0 fun i j => .int (i + j)) ta tb) ρ I (.i (i + j)) I := e_add ha hb
theorem p_sub {i j : Int} (ha : E K ta ρ I (.i i) I) (hb : E K tb ρ I (.i j) I) : E K (tOp (rI0 fun i j => .int (i - j)) ta tb) ρ I (.i (i - j)) I := e_sub ha hb
theorem p_mul {i j : Int} (ha : E K ta ρ I (.i i) I) (hb : E K tb ρ I (.i j) I) (hc : CMulW i j) : E K (tOp (rI CMulW fun i j => .int (i * j)) ta tb) ρ I (.i (i * j)) I := e_mul ha hb hc
theorem p_div {i j : Int} (ha : E K ta ρ I (.i i) I) (hb : E K tb ρ I (.i j) I) (hc : CDivW i j) : E K (tOp (rI CDivW fun i j => .int (i / j)) ta tb) ρ I (.i (i / j)) I := e_div ha hb hc
theorem p_mod {i j : Int} (ha : E K ta ρ I (.i i) I) (hb : E K tb ρ I (.i j) I) (hc : 0 < j) : E K (tOp (rI (fun _ j => 0 < j) fun i j => .int (i % j)) ta tb) ρ I (.i (i % j)) I := e_mod ha hb hc
theorem p_pow {i j : Int} (ha : E K ta ρ I (.i i) I) (hb : E K tb ρ I (.i j) I) (hc : CPow i j) : E K (tOp (rI CPow fun i j => .int (i ^ j.toNat)) ta tb) ρ I (.i (i ^ j.toNat)) I := e_pow ha hb hc
theorem p_lt {i j : Int} (ha : E K ta ρ I (.i i) I) (hb : E K tb ρ I (.i j) I) : E K (tOp (rI0 fun i j => .bl (decide (i < j))) ta tb) ρ I (.b (decide (i < j))) I := e_lt ha hb
theorem p_le {i j : Int} (ha : E K ta ρ I (.i i) I) (hb : E K tb ρ I (.i j) I) : E K (tOp (rI0 fun i j => .bl (decide (i ≤ j))) ta tb) ρ I (.b (decide (i ≤ j))) I := e_le ha hb
theorem p_gt {i j : Int} (ha : E K ta ρ I (.i i) I) (hb : E K tb ρ I (.i j) I) : E K (tOp (rI0 fun i j => .bl (decide (j < i))) ta tb) ρ I (.b (decide (j < i))) I := e_gt ha hb
theorem p_ge {i j : Int} (ha : E K ta ρ I (.i i) I) (hb : E K tb ρ I (.i j) I) : E K (tOp (rI0 fun i j => .bl (decide (j ≤ i))) ta tb) ρ I (.b (decide (j ≤ i))) I := e_ge ha hb
theorem p_eqI {i j : Int} (ha : E K ta ρ I (.i i) I) (hb : E K tb ρ I (.i j) I) : E K (tOp rEq ta tb) ρ I (.b (decide (i = j))) I := e_eqI ha hb
theorem p_neI {i j : Int} (ha : E K ta ρ I (.i i) I) (hb : E K tb ρ I (.i j) I) : E K (tOp rNe ta tb) ρ I (.b (!decide (i = j))) I := e_neI ha hb
theorem p_neg {i : Int} (ha : E K ta ρ I (.i i) I) : E K (tUn (rU fun i => .int (-i)) ta) ρ I (.i (-i)) I := e_neg ha
theorem p_gcd {i j : Int} {tr : TA} (hr : A K tr ρ I [.i i, .i j] I) : E K (tCB rGcd tr) ρ I (.i (Int.gcd i j : Nat)) I := e_gcd hr
theorem p_int1 {i : Int} {tr : TA} (hr : A K tr ρ I [.i i] I) : E K (tCB (fun xs H Q => (∃ i, xs = [.int i] ∧ Q (.int i) H) ∨ ∃ k, xs = [.bl k] ∧ Q (.int (if k then 1 else 0)) H) tr) ρ I (.i i) I := e_int1 hr
theorem p_abs {i : Int} {tr : TA} (hr : A K tr ρ I [.i i] I) : E K (tCB (fun xs H Q => ∃ i, xs = [.int i] ∧ Q (.int (if i < 0 then -i else i)) H) tr) ρ I (.i (i.natAbs : Nat)) I := e_abs hr
theorem p_len {ds : List PyData} {tr : TA} (hr : A K tr ρ I [.d (.list ds)] I) : E K (tCB (fun xs H Q => ∃ p ys, xs = [.ref p] ∧ (SqL K H p ys ∨ SqT K H p ys) ∧ Q (.int ys.length) H) tr) ρ I (.i (ds.length : Nat)) I := e_len hr
theorem p_ixT {ds : List PyData} {i : Int} {x : PyData} (ha : E K ta ρ I (.t ds) I) (hb : E K tb ρ I (.i i) I) (h : atI ds i = some x) : E K (tOp (rIxT K) ta tb) ρ I (.d x) I := e_ixT' ha hb h
theorem p_i0 {ds : List PyData} {x : PyData} (ha : E K ta ρ I (.t (x :: ds)) I) : E K (tOp (rIxT K) ta (tC (.int 0))) ρ I (.d x) I := e_ixT (j := 0) ha e_int rfl
theorem p_i1 {ds : List PyData} {x y : PyData} (ha : E K ta ρ I (.t (x :: y :: ds)) I) : E K (tOp (rIxT K) ta (tC (.int 1))) ρ I (.d y) I := e_ixT (j := 1) ha e_int rfl
theorem p_i2 {ds : List PyData} {x y z : PyData} (ha : E K ta ρ I (.t (x :: y :: z :: ds)) I) : E K (tOp (rIxT K) ta (tC (.int 2))) ρ I (.d z) I := e_ixT (j := 2) ha e_int rfl
theorem p_ixL {ds : List PyData} {i : Int} {x : PyData} (ha : E K ta ρ I (.d (.list ds)) I) (hb : E K tb ρ I (.i i) I) (h : atI ds i = some x) : E K (tOp (rIxL K) ta tb) ρ I (.d x) I := e_ixL' ha hb h
theorem p_call {T : Tbs} {R : List Dat → Dat → Prop} {X : XK} {tr : TA} {ds : List Dat} [HasT T I] (hr : A K tr ρ I ds I) (h : R ds d) : E K (tCall (spT K T R) [] X tr) ρ I d I := e_call hr h
theorem p_frac {tr : TA} {x y : Int} {a : F} (hr : A K tr ρ I [.i x, .i y] I) (h : a = (x, y)) : E K (tTup tr) ρ I (.d (fr a)) I := e_frac hr h
theorem p_tup {tr : TA} {ds : List Dat} {xs : List PyData} (hr : A K tr ρ I ds I) (hd : Ds ds xs) (hl : xs.length ≤ 100000) : E K (tTup tr) ρ I (.t xs) I := e_tup hr hd hl
theorem p_tup2 {tr : TA} {x y : PyData} (hr : A K tr ρ I [.d x, .d y] I) : E K (tTup tr) ρ I (.t [x, y]) I := e_tup hr (.cons (.cons .nil)) (show 2 ≤ 100000 by decide)
theorem p_asg {i : Nat} (h : E K te ρ I d I) : S K (tAsg te (gName i)) ρ I (.nx (ρ.set i (some d)) I) := s_asg h
theorem q_asg {i : Nat} (h : E K te ρ I d I) (h2 : S K us (ρ.set i (some d)) I k) : S K (tSeq (tAsg te (gName i)) us) ρ I k := s_seq (s_asg h) h2
theorem p_ret (h : E K te ρ I d I) : S K (tRet te) ρ I (.rt d I) := s_ret h
theorem p_par {i j : Nat} {tr : TA} (h : A K tr ρ I [d, e] I) : S K (tPar i j tr) ρ I (.nx ((ρ.set i (some d)).set j (some e)) I) := s_par h
theorem p_test (h : E K te ρ I (.b b) I) : T K (tTest te) ρ I b I := t_test h
theorem p_eqD {x y : PyData} (ha : E K ta ρ I (.d x) I) (hb : E K tb ρ I (.d y) I) (hx : SeqAt.shaped x = true) (hy : SeqAt.shaped y = true) : E K (tOp (rEqD K) ta tb) ρ I (.b (PyData.eqv x y)) I := e_eqD ha hb hx hy
theorem p_neD {x y : PyData} (ha : E K ta ρ I (.d x) I) (hb : E K tb ρ I (.d y) I) (hx : SeqAt.shaped x = true) (hy : SeqAt.shaped y = true) : E K (tOp (rNeD K) ta tb) ρ I (.b (!PyData.eqv x y)) I := e_neD ha hb hx hy
/-- an if by a test of known outcome; then what follows -/
theorem q_ifT {b : Bool} (h : T K t ρ I b I) (hb : b = true) (h2 : S K ts ρ I k) : S K (tIfS t ts us) ρ I k := s_ifT (hb ▸ h) h2
theorem q_ifF {b : Bool} (h : T K t ρ I b I) (hb : b = false) (h2 : S K us ρ I k) : S K (tIfS t ts us) ρ I k := s_ifF (hb ▸ h) h2
/-- an if without else that is not entered, ahead of the rest -/
theorem q_skip {b : Bool} {tr : TS} (h : T K t ρ I b I) (hb : b = false) (h2 : S K tr ρ I k) : S K (tSeq (tIfS t ts tNext) tr) ρ I k := s_seq (q_ifF h hb s_next) h2
variable {p : Addr} {C : DS} {J : Asn}
/-! ### the drawing list's items and stores -/
theorem d_ix0 (h : E K te ρ (dJ K p C J) (.r p) (dJ K p C J)) : E K (tOp (rIxL K) te (tC (.int 0))) ρ (dJ K p C J) (.d (.list (C.ns.map PyData.int))) (dJ K p C J) := e_dix (j := 0) h e_int rfl
theorem d_ix1 (h : E K te ρ (dJ K p C J) (.r p) (dJ K p C J)) : E K (tOp (rIxL K) te (tC (.int 1))) ρ (dJ K p C J) (.i (C.pos : Nat)) (dJ K p C J) := e_dix (j := 1) h e_int rfl
theorem d_ix2 (h : E K te ρ (dJ K p C J) (.r p) (dJ K p C J)) : E K (tOp (rIxL K) te (tC (.int 2))) ρ (dJ K p C J) (.i C.rest) (dJ K p C J) := e_dix (j := 2) h e_int rfl
theorem d_ix3 (h : E K te ρ (dJ K p C J) (.r p) (dJ K p C J)) : E K (tOp (rIxL K) te (tC (.int 3))) ρ (dJ K p C J) (.i C.seed) (dJ K p C J) := e_dix (j := 3) h e_int rfl
theorem d_set1 {n : Nat} {x : Int} (he : E K te ρ (dJ K p C J) (.i x) (dJ K p C J)) (hx : x = (n : Nat)) (h : E K ta ρ (dJ K p C J) (.r p) (dJ K p C J)) (hf : ¬ J.foot p) : S K (tAsg te (gSub ta (tC (.int 1)) rSetL)) ρ (dJ K p C J) (.nx ρ (dJ K p { C with pos := n } J)) := by
  subst hx
  exact s_dset (j := 1) (C' := { C with pos := n }) he h e_int (by decide) rfl ⟨rfl, rfl⟩ hf
theorem d_set2 {x : Int} (he : E K te ρ (dJ K p C J) (.i x) (dJ K p C J)) (h : E K ta ρ (dJ K p C J) (.r p) (dJ K p C J)) (hf : ¬ J.foot p) : S K (tAsg te (gSub ta (tC (.int 2)) rSetL)) ρ (dJ K p C J) (.nx ρ (dJ K p { C with rest := x } J)) :=
  s_dset (j := 2) (C' := { C with rest := x }) he h e_int (by decide) rfl ⟨rfl, rfl⟩ hf
theorem d_set3 {x : Int} (he : E K te ρ (dJ K p C J) (.i x) (dJ K p C J)) (h : E K ta ρ (dJ K p C J) (.r p) (dJ K p C J)) (hf : ¬ J.foot p) : S K (tAsg te (gSub ta (tC (.int 3)) rSetL)) ρ (dJ K p C J) (.nx ρ (dJ K p { C with seed := x } J)) :=
  s_dset (j := 3) (C' := { C with seed := x }) he h e_int (by decide) rfl ⟨rfl, rfl⟩ hf
theorem p_list {ds : List PyData} {tr : TA} (hr : A K tr ρ I [.d (.list ds)] I) : E K (tCB (fun xs H Q => ∃ p ys, xs = [.ref p] ∧ (SqL K H p ys ∨ SqT K H p ys) ∧ ∀ l, H l = none → Q (.ref l) (upd H l (.lst ys))) tr) ρ I (.d (.list ds)) I :=
  e_cb hr fun G H vs gh jo h Q q => by
    obtain ⟨v, rfl, h1⟩ := dva1 h
    cases h1 with
    | lst s r =>
      rename_i a xs
      refine ⟨_, _, rfl, .inl (gh.seq s), fun l hl => ?_⟩
      have st := Stp.new (o := .lst xs) gh hl
      exact q _ _ _ st.gg st.gh (Asn.pure_st st jo) (.lst (.inl (.inl upd_same)) (dp_monos st.gg ds _ r))
/-! ### the law's beginning -/
def seedF (s n : Int) : Int := (s * 69621 + n % 2147483629 + 7) % 2147483647
def seedAt (ns : List Int) : Nat → Int
  | 0 => 1
  | i + 1 => seedF (seedAt ns i) (ns.getD i 0)
theorem seed_ok (ns : List Int) (i : Nat) : 0 ≤ seedAt ns i ∧ seedAt ns i < 2147483647 := by
  cases i with
  | zero => exact ⟨(by decide : (0 : Int) ≤ 1), (by decide : (1 : Int) < 2147483647)⟩
  | succ i => exact ⟨Int.emod_nonneg _ (by decide), Int.emod_lt_of_pos _ (by decide)⟩
/-- what _law_begin leaves -/
def begP (K : PySem.W.Frag) (G0 H0 : Hp) (v : V) (G2 H2 : Hp) : Prop := ∃ p C, v = .ref p ∧ DOk C ∧ Stp NoA G0 H0 G2 H2 ∧ G2 p = none ∧ H0 p = none ∧ (dA K p C).ok G2 H2
theorem s_retBeg {G0 H0 : Hp} {tr : TA} {ns : List Int} {sd : Int} (hs : 0 ≤ sd ∧ sd < 2147483647) (hr : A K tr ρ (.since NoA G0 H0) [.d (.list (ns.map PyData.int)), .i 0, .i 0, .i sd] (.since NoA G0 H0)) : S K (tRet (tLst tr)) ρ (.since NoA G0 H0) (.fin (begP K G0 H0)) := fun G H σ D gh en io f => hr G H σ gh en io _ fun vs G1 H1 g1 gh1 j1 dvs => by
  match vs, dvs with
  | [v0, v1, v2, v3], ⟨h0, h1, h2, h3, _⟩ =>
    obtain rfl := dv_int h1
    obtain rfl := dv_int h2
    obtain rfl := dv_int h3
    cases h0 with
    | lst s r =>
      rename_i a xs
      obtain rfl := dpa_ints_inv ns xs r
      refine ⟨sz_of (show 4 ≤ 100000 by decide), fun p hp => ?_⟩
      have st := Stp.newM (o := HO.lst [.ref a, .int 0, .int 0, .int sd]) gh1 hp
      have gp : G1 p = none := gh1.free hp
      have hp0 : H0 p = none := by
        cases e : H0 p with
        | none => rfl
        | some u =>
          have j1' : Stp NoA G0 H0 G1 H1 := j1
          obtain ⟨x, hx⟩ := j1'.ex p u e
          rw [hx] at hp
          cases hp
      have j1' : Stp NoA G0 H0 G1 H1 := j1
      exact f _ G1 _ g1 st.gh ⟨p, ⟨a, ns, 0, 0, sd⟩, rfl, ⟨Int.le_refl _, hs⟩, j1'.trans st, gp, hp0, gp, upd_same, s⟩
theorem body_beg {ts : TS} {N : List Str} {vs : List V} {H : Hp} {Q : VK} {X : XK} (hb : ∀ (ns : List Int) G0 H0, S K ts (some (.d (.list (ns.map PyData.int))) :: List.replicate (N.length - 1) none) (.since NoA G0 H0) (.fin (begP K G0 H0))) (h : spBegin K vs H Q X) :
    ts { nx := fun _ H' => Q .non H', rt := Q } (L2.start N vs) H := by
  obtain ⟨a, ns, G, rfl, gh, s, q⟩ := h
  refine hb ns G H G H _ _ gh ?_ (Stp.refl gh) fun v G2 H2 g2 gh2 ⟨p, C, ev, ok, st, gp, hp, k⟩ => ?_
  · unfold L2.start
    exact env_start (vs := [.ref a]) (ds := [.d (.list (ns.map PyData.int))]) _ ⟨.lst s (dpa_ints ns), trivial⟩
  · subst ev
    exact q G2 H2 p C st ok gp hp k
end
/-! ### the law itself -/
/-- the tables as the law's run begins -/
theorem start_tabs {K : PySem.W.Frag} {H : Hp} {a : Addr} {xs : List V} {T : Tbs} (hS : SqL K H a xs) (hg : ∀ p ∈ T.gs, ∃ ps : Array Value, H p = some (.tbl ps) ∧ TriplesOk ps.toList ∧ p ∉ T.ls) (hl : ∀ p ∈ T.ls, H p = some (.tbl #[])) : ∃ G, Same G H ∧ SqL K G a xs ∧ TabsIn T G H := by
  have ne : ∀ b o, H b = some o → (∀ ps, o ≠ .tbl ps) → b ∉ T.ls := fun b o e n m => by
    rw [hl b m] at e
    exact n _ (Option.some.inj e).symm
  have at_ : ∀ b, b ∉ T.ls → (fun b => if b ∈ T.ls then none else H b) b = H b := fun b n => if_neg n
  refine ⟨fun b => if b ∈ T.ls then none else H b, fun b o e => ?_, ?_, fun p hp => ?_, fun p hp => ⟨if_pos hp, LamX.TabS.nil (hl p hp)⟩⟩
  · by_cases m : b ∈ T.ls
    · have e : (if b ∈ T.ls then none else H b) = some o := e
      rw [if_pos m] at e
      cases e
    · have e : (if b ∈ T.ls then none else H b) = some o := e
      rw [if_neg m] at e
      exact .of e
  · rcases hS with (h | ⟨o, h⟩) | h
    · exact .inl (.inl ((at_ a (ne a _ h fun _ z => by cases z)).trans h))
    · exact .inl (.inr ⟨o, (at_ a (ne a _ h fun _ z => by cases z)).trans h⟩)
    · exact .inr h
  · obtain ⟨ps, e, t, n⟩ := hg p hp
    exact ⟨ps, (at_ p n).trans e, t⟩
def spLawT (K : PySem.W.Frag) (T : Tbs) : Sp := fun vs H Q _ => ∃ (a : Addr) (ns : List Int), vs = [.ref a] ∧ SqL K H a (ns.map V.int) ∧ ns.length ≤ 63 ∧ (∃ G, Same G H ∧ SqL K G a (ns.map V.int) ∧ TabsIn T G H) ∧ ∀ H', Q (.bl true) H'
theorem len_LT {K : PySem.W.Frag} {T : Tbs} {vs : List V} {H : Hp} {Q : VK} {X : XK} (h : spLawT K T vs H Q X) : vs.length = 1 := by
  obtain ⟨_, _, rfl, _⟩ := h
  rfl
theorem body_LT {K : PySem.W.Frag} {T : Tbs} {ts : TS} {N : List Str} {vs : List V} {H : Hp} {Q : VK} {X : XK} (hb : ∀ ns : List Int, ns.length ≤ 63 → S K ts (some (.d (.list (ns.map PyData.int))) :: List.replicate (N.length - 1) none) (.tab T) (.rt (.b true) .tt)) (h : spLawT K T vs H Q X) :
    ts { nx := fun _ H' => Q .non H', rt := Q } (L2.start N vs) H := by
  obtain ⟨a, ns, rfl, _, hl, ⟨G, gh, s, tb⟩, q⟩ := h
  refine hb ns hl G H _ _ gh ?_ tb fun v G2 H2 g2 gh2 _ dv => ?_
  · unfold L2.start
    exact env_start (vs := [.ref a]) (ds := [.d (.list (ns.map PyData.int))]) _ ⟨.lst s (dpa_ints ns), trivial⟩
  · obtain rfl := dv_bl dv
    exact q H2
/-- two vectors -/
def RVec2 (f : F → F → F) (ds : List Dat) (d : Dat) : Prop := ∃ a b x y : F, ds = [.t [fr a, fr b], .t [fr x, fr y]] ∧ Ok 4000 a ∧ Ok 4000 b ∧ Ok 4000 x ∧ Ok 4000 y ∧ d = .t [fr (f a x), fr (f b y)]
theorem RVec2.len {f : F → F → F} {ds : List Dat} {d : Dat} (h : RVec2 f ds d) : ds.length = 2 := by
  obtain ⟨_, _, _, _, rfl, _⟩ := h
  rfl
theorem RVec2.mk {f : F → F → F} {a b x y : F} {m n : Nat} (ha : Ok m a) (hb : Ok m b) (hx : Ok n x) (hy : Ok n y) (hm : m ≤ 4000 := by omega) (hn : n ≤ 4000 := by omega) : RVec2 f [.t [fr a, fr b], .t [fr x, fr y]] (.t [fr (f a x), fr (f b y)]) := ⟨a, b, x, y, rfl, ha.mono hm, hb.mono hm, hx.mono hn, hy.mono hn, rfl⟩
end PL
namespace PL
open PySem PySem.Spec PyProof.Rows L2 FR
variable [Nm]
/-! ### defs that may raise -/
inductive Res where
  | ok (d : Dat)
  | err (C : Addr)
def RPost (K : PySem.W.Frag) (G H : Hp) (Q : VK) (X : XK) : Res → Prop
  | .ok d => ∀ v G2 H2, Stp NoA G H G2 H2 → Dv K G2 v d → Q v H2
  | .err C => ∀ G2 H2, Stp NoA G H G2 H2 → X (.ref C) none H2
def spXT (K : PySem.W.Frag) (T : Tbs) (R : List Dat → Res → Prop) : Sp := fun vs H Q X => ∃ G ds r, Same G H ∧ DvAll K G vs ds ∧ R ds r ∧ TabsIn T G H ∧ RPost K G H Q X r
abbrev spX (K : PySem.W.Frag) (R : List Dat → Res → Prop) : Sp := spXT K noT R
def outR (I : Asn) : Res → Out
  | .ok d => .rt d I
  | .err _ => .fin fun _ _ _ => False
section
variable {K : PySem.W.Frag} {ρ ρ1 : Rho} {I J L N : Asn} {ta tb tc te : TE} {d e : Dat} {t u : TT} {b c : Bool} {ts us : TS} {k : Out} {R : List Dat → Res → Prop} {tr : TA} {ds : List Dat} {tabs : Tbs}
theorem len_X {n : Nat} (hl : ∀ ds r, R ds r → ds.length = n) {vs : List V} {H : Hp} {Q : VK} {X : XK} (h : spXT K tabs R vs H Q X) : vs.length = n := by
  obtain ⟨G, ds, r, gh, dvs, hr, _, q⟩ := h
  rw [dva_len dvs, hl ds r hr]
theorem e_callX {X : XK} [hT : HasT tabs J] (hr : A K tr ρ I ds J) (h : R ds (.ok d)) : E K (tCall (spXT K tabs R) [] X tr) ρ I d J := fun G H σ gh en io Q q => hr G H σ gh en io _ fun vs G1 H1 g1 gh1 j1 dvs => by
  rw [List.append_nil]
  exact ⟨G1, ds, .ok d, gh1, dvs, h, hT.get _ _ j1, fun v G2 H2 s dv => q v G2 H2 (g1.trans s.gg) s.gh (Asn.pure_st s j1) dv⟩
theorem body_XT {N : List Str} {vs : List V} {H : Hp} {Q : VK} {X : XK} (hb : ∀ ds r, R ds r → ∀ I : Asn, HasT tabs I → (∀ C, r = .err C → ∀ G H, I.ok G H → X (.ref C) none H) → S K ts (ds.map some ++ List.replicate (N.length - ds.length) none) I (outR I r)) (h : spXT K tabs R vs H Q X) :
    ts { nx := fun _ H' => Q .non H', rt := Q } (L2.start N vs) H := by
  obtain ⟨G, ds, r, gh, dvs, hr, tb, q⟩ := h
  have en : EnvD K G (L2.start N vs) (ds.map some ++ List.replicate (N.length - ds.length) none) := by
    unfold L2.start
    rw [dva_len dvs]
    exact env_start _ dvs
  cases r with
  | ok d => exact hb ds _ hr ((Asn.since NoA G H).and (Asn.tab tabs)) inferInstance (fun C z => by cases z) G H _ _ gh en ⟨Stp.refl gh, tb⟩ fun v G2 H2 g2 gh2 j2 dv => q v G2 H2 j2.1 dv
  | err C =>
    refine hb ds _ hr ((Asn.since NoA G H).and (Asn.tab tabs)) inferInstance (fun C' z G2 H2 j2 => ?_) G H _ _ gh en ⟨Stp.refl gh, tb⟩ fun v G2 H2 g2 gh2 z => z.elim
    cases z
    exact q G2 H2 j2.1
theorem body_X {N : List Str} {vs : List V} {H : Hp} {Q : VK} {X : XK} (hb : ∀ ds r, R ds r → ∀ I : Asn, (∀ C, r = .err C → ∀ G H, I.ok G H → X (.ref C) none H) → S K ts (ds.map some ++ List.replicate (N.length - ds.length) none) I (outR I r)) (h : spX K R vs H Q X) :
    ts { nx := fun _ H' => Q .non H', rt := Q } (L2.start N vs) H := body_XT (fun ds r hr I _ => hb ds r hr I) h
/-- a def that ends without a return -/
theorem body_XNT {N : List Str} {vs : List V} {H : Hp} {Q : VK} {X : XK} (hb : ∀ ds r, R ds r → ∀ I : Asn, HasT tabs I → (∀ C, r = .err C → ∀ G H, I.ok G H → X (.ref C) none H) →
      (r = .ok (.d .none) ∧ ∃ ρ1, S K ts (ds.map some ++ List.replicate (N.length - ds.length) none) I (.nx ρ1 I)) ∨ (∃ C, r = .err C ∧ ∀ k, S K ts (ds.map some ++ List.replicate (N.length - ds.length) none) I k)) (h : spXT K tabs R vs H Q X) :
    ts { nx := fun _ H' => Q .non H', rt := Q } (L2.start N vs) H := by
  obtain ⟨G, ds, r, gh, dvs, hr, tb, q⟩ := h
  have en : EnvD K G (L2.start N vs) (ds.map some ++ List.replicate (N.length - ds.length) none) := by
    unfold L2.start
    rw [dva_len dvs]
    exact env_start _ dvs
  have hx : ∀ C, r = .err C → ∀ G2 H2, ((Asn.since NoA G H).and (Asn.tab tabs)).ok G2 H2 → X (.ref C) none H2 := fun C z G2 H2 j2 => by
    subst z
    exact q G2 H2 j2.1
  rcases hb ds r hr ((Asn.since NoA G H).and (Asn.tab tabs)) inferInstance hx with ⟨rfl, ρ1, hs⟩ | ⟨C, rfl, hk⟩
  · exact hs G H _ _ gh en ⟨Stp.refl gh, tb⟩ fun G2 H2 σ2 g2 gh2 en2 j2 => q .non G2 H2 j2.1 .non
  · exact hk (.fin fun _ _ _ => False) G H _ _ gh en ⟨Stp.refl gh, tb⟩ fun v G2 H2 g2 gh2 z => z.elim
theorem body_XN {N : List Str} {vs : List V} {H : Hp} {Q : VK} {X : XK} (hb : ∀ ds r, R ds r → ∀ I : Asn, (∀ C, r = .err C → ∀ G H, I.ok G H → X (.ref C) none H) →
      (r = .ok (.d .none) ∧ ∃ ρ1, S K ts (ds.map some ++ List.replicate (N.length - ds.length) none) I (.nx ρ1 I)) ∨ (∃ C, r = .err C ∧ ∀ k, S K ts (ds.map some ++ List.replicate (N.length - ds.length) none) I k)) (h : spX K R vs H Q X) :
    ts { nx := fun _ H' => Q .non H', rt := Q } (L2.start N vs) H := body_XNT (fun ds r hr I _ => hb ds r hr I) h
theorem s_raise' (h : ∀ G H σ (D : Ends), Same G H → I.ok G H → ts D σ H) : S K ts ρ I k := fun G H σ D gh en io f => h G H σ D gh io
def Asn.no : Asn := ⟨NoA, fun _ _ => False, fun _ _ _ _ _ _ _ h => h, fun _ _ _ z => z.elim⟩
/-- an if that raises, ahead of the rest -/
theorem s_err (h : S K ts ρ I (.fin fun _ _ _ => False)) : S K (tSeq ts us) ρ I (.fin fun _ _ _ => False) := fun G H σ D gh en io f => h G H σ _ gh en io f
/-! ### isinstance -/
end
/-! ### lists that may change -/
section
variable {K : PySem.W.Frag} {ρ ρ1 : Rho} {I J L N : Asn} {ta tb tc te : TE} {d e : Dat} {t u : TT} {b c : Bool} {ts us : TS} {k : Out} {tr : TA} {q : Addr} {ds : List PyData} {x : PyData}
theorem s_pre {I' : Asn} (h : ∀ G H, I.ok G H → I'.ok G H) (hs : S K ts ρ I' k) : S K ts ρ I k := fun G H σ D gh en io f => hs G H σ D gh en (h G H io) f
theorem s_post {J' : Asn} (h : ∀ G H, J.ok G H → J'.ok G H) (hs : S K ts ρ I (.nx ρ1 J)) : S K ts ρ I (.nx ρ1 J') := fun G H σ D gh en io f => hs G H σ D gh en io fun G2 H2 σ2 a b c j => f G2 H2 σ2 a b c (h G2 H2 j)
def lA (K : PySem.W.Frag) (q : Addr) (ds : List PyData) : Asn := ⟨(· = q), fun G H => G q = none ∧ ∃ vs, H q = some (.lst vs) ∧ DpAll K G vs ds, fun M G H G2 H2 n s ⟨g, vs, h, r⟩ => ⟨s.fr q _ (n q rfl) h g, vs, s.hh q _ (n q rfl) h, dp_monos s.gg ds vs r⟩, fun G H a ⟨_, vs, h, _⟩ (z : a = q) => ⟨.lst vs, by rw [z]; exact h⟩⟩
abbrev lJ (K : PySem.W.Frag) (q : Addr) (ds : List PyData) (J : Asn) : Asn := (lA K q ds).and J
theorem Stp.frz {G H : Hp} {o : HO} (gh : Same G H) (gq : G q = none) (hq : H q = some o) (nt : ∀ ps, o ≠ .tbl ps := by exact fun _ z => by cases z) : Stp (· = q) G H (upd G q o) H := by
  refine ⟨same_new gq, fun a u e => ?_, fun _ _ _ e => .of e, fun a o n e g => ?_, fun a o e => ⟨o, e⟩, fun P t => ?_⟩
  rotate_left
  · rw [upd_ne n]
    exact g
  · obtain ⟨ps, hP⟩ := t.some
    have ne : P ≠ q := fun z => by
      rw [z, hq] at hP
      exact nt ps (Option.some.inj hP)
    exact t.keep (fun g => by rw [upd_ne ne]; exact g) fun b o e _ _ => e
  · by_cases z : a = q
    · subst z
      rw [upd_same] at e
      rw [hq]
      exact .of e
    · rw [upd_ne z] at e
      exact gh a u e
/-- x = [] -/
theorem s_newL {i : Nat} (h : ∀ q, ¬ I.foot q → S K us (ρ.set i (some (.r q))) (lJ K q [] I) k) : S K (tSeq (tAsg (tLst tNil) (gName i)) us) ρ I k := fun G H σ D gh en io f =>
  ⟨Nat.zero_le _, fun p hp => by
    have s := Stp.newM (o := HO.lst []) gh hp
    have gp : G p = none := gh.free hp
    refine h p (fun z => ?_) G _ _ D s.gh (env_set (d := .r p) rfl en) ⟨⟨gp, [], upd_same, .nil⟩, Asn.pure_st s io⟩ f
    obtain ⟨o, ho⟩ := I.own G H p io z
    rw [ho] at hp
    cases hp⟩
/-- x.append(e) -/
theorem s_app {i : Nat} (he : E K te ρ (lJ K q ds J) (.d x) (lJ K q ds J)) (hi : ρ[i]? = some (some (.r q))) (hl : ds.length < 100000) (hf : ¬ J.foot q) : S K (tDrop (tBM K "list" rAppend (tVar i) (tCons te tNil))) ρ (lJ K q ds J) (.nx ρ (lJ K q (ds ++ [x]) J)) := fun G H σ D gh en io f => by
  obtain ⟨v, hv, rfl⟩ := env_get en hi
  have io' := io
  obtain ⟨⟨gq, vs, hq, r⟩, jo⟩ := io
  refine ⟨.ref q, hv, .inl ⟨rfl, _, .inl (.inl hq)⟩, he G H σ gh en io' _ fun v G1 H1 g1 gh1 j1 dv => ?_⟩
  obtain ⟨⟨gq1, vs1, hq1, r1⟩, jo1⟩ := j1
  have s := Stp.store (o := HO.lst (vs1 ++ [v])) gh1 gq1 hq1
  refine ⟨q, vs1, v, rfl, rfl, hq1, ?_, ?_⟩
  · rw [dpa_len r1]
    exact Nat.lt_of_lt_of_le hl (by decide)
  · exact f G1 _ σ g1 s.gh (env_mono g1 en) ⟨⟨gq1, _, upd_same, dpa_app r1 (.cons dv .nil)⟩, J.st _ _ _ _ _ (fun a fa (z : a = q) => hf (z ▸ fa)) s jo1⟩
theorem env_put {G : Hp} {i : Nat} (hx : Dp K G (.ref q) x) : ∀ {σ : List (Option V)} {ρ : Rho} {i : Nat}, EnvD K G σ ρ → ρ[i]? = some (some (.r q)) → EnvD K G σ (ρ.set i (some (.d x)))
  | [], [], _, _, e => by simp at e
  | s :: _, o :: _, 0, h, e => by
    have eo : o = some (.r q) := by simpa using e
    obtain ⟨h1, h2⟩ := h
    rw [eo] at h1
    obtain ⟨v, h3, h4⟩ := h1
    exact ⟨⟨v, h3, by rw [show v = V.ref q from h4]; exact hx⟩, h2⟩
  | _ :: σ, _ :: ρ, i + 1, h, e => ⟨h.1, env_put hx (i := i) h.2 (by simpa using e)⟩
  | [], _ :: _, _, h, _ => h.elim
  | _ :: _, [], _, h, _ => h.elim
/-- the list at q changes no more -/
theorem s_freeze {i : Nat} (hi : ρ[i]? = some (some (.r q))) (hf : ¬ J.foot q) (hs : S K ts (ρ.set i (some (.d (.list ds)))) J k) : S K ts ρ (lJ K q ds J) k := fun G H σ D gh en io f => by
  obtain ⟨⟨gq, vs, hq, r⟩, jo⟩ := io
  have s : Stp (· = q) G H (upd G q (.lst vs)) H := Stp.frz gh gq hq
  refine hs (upd G q (.lst vs)) H σ D s.gh (env_put (x := .list ds) (i := i) (.lst (.inl (.inl upd_same)) (dp_monos s.gg ds vs r)) (env_mono s.gg en) hi) (J.st _ _ _ _ _ (fun a fa (z : a = q) => hf (z ▸ fa)) s jo) (f.mono s.gg)
/-! ### comprehensions -/
theorem env_none {G : Hp} : ∀ {σ : List (Option V)} {ρ : Rho} {i : Nat}, EnvD K G σ ρ → EnvD K G (σ.set i none) (ρ.set i none)
  | [], [], _, _ => trivial
  | _ :: _, _ :: _, 0, h => ⟨trivial, h.2⟩
  | _ :: σ, _ :: ρ, i + 1, h => ⟨h.1, env_none (i := i) h.2⟩
  | [], _ :: _, _, h => h.elim
  | _ :: _, [], _, h => h.elim
theorem dpa_bools : ∀ (bs : List Bool) (xs : List V) {G : Hp}, DpAll K G xs (bs.map PyData.bool) → xs = bs.map V.bl
  | [], _, _, r => by
    cases r
    rfl
  | n :: ns, _, _, r => by
    cases r with
    | cons r1 r2 =>
      cases r1
      rw [dpa_bools ns _ r2, List.map_cons]
abbrev rTupOf (K : PySem.W.Frag) : List V → Hp → VK → Prop := fun xs H Q => ∃ p ys, xs = [.ref p] ∧ ((SqL K H p ys ∧ ∀ l, H l = none → Q (.ref l) (upd H l (.tup ys))) ∨ (SqT K H p ys ∧ Q (.ref p) H))
theorem e_tupOf (hr : A K tr ρ I [.d (.list ds)] J) : E K (tCB (fun xs H Q => ∃ p ys, xs = [.ref p] ∧ ((SqL K H p ys ∧ ∀ l, H l = none → Q (.ref l) (upd H l (.tup ys))) ∨ (SqT K H p ys ∧ Q (.ref p) H))) tr) ρ I (.t ds) J :=
  e_cb hr fun G H vs gh jo h Q q => by
    obtain ⟨v, rfl, h1⟩ := dva1 h
    cases h1 with
    | lst s r =>
      rename_i a xs
      refine ⟨_, _, rfl, .inl ⟨gh.seq s, fun l hl => ?_⟩⟩
      have st := Stp.new (o := .tup xs) gh hl
      exact q _ _ _ st.gg st.gh (Asn.pure_st st jo) (.tup (.inl (.inl upd_same)) (dp_monos st.gg ds _ r))
theorem s_forT {tl : TE} {j : Nat} (P : Nat → Rho) (V : Nat → Asn) (hl : E K tl ρ I (.t ds) (V 0)) (h0 : ρ = P 0)
    (turn : ∀ i x, ds[i]? = some x → S K ts ((P i).set j (some (.d x))) (V i) (.nx (P (i + 1)) (V (i + 1)))) : S K (tFor (iTup K tl) (gName j) ts) ρ I (.nx (P ds.length) (V ds.length)) := fun G H σ D gh en io f => by
  refine hl G H σ gh en io _ fun v G1 H1 g1 gh1 j1 dv => ?_
  cases dv with
  | tup s r =>
    rename_i a xs
    subst h0
    refine ⟨a, rfl, ⟨_, same_t gh1 s⟩, for_tup (xs := xs) (fun i σ' H' => ∃ G', Same G1 G' ∧ Same G' H' ∧ EnvD K G' σ' (P i) ∧ (V i).ok G' H') ⟨G1, Same.refl _, gh1, env_mono g1 en, j1⟩ (fun i σ' H' _ ⟨G', a1, a2, _⟩ => same_t (a1.trans a2) s) (fun i x σ' H' hx ⟨G', a1, a2, a3, a4⟩ => ?_) (fun σ' H' ⟨G', a1, a2, a3, a4⟩ => ?_)⟩
    · have hi : i < xs.length := (List.getElem?_eq_some_iff.mp hx).1
      have hi2 : i < ds.length := by rw [← dpa_len r]; exact hi
      obtain ⟨w, h1, h2⟩ := dpa_get r (List.getElem?_eq_getElem hi2)
      rw [hx] at h1
      obtain rfl := Option.some.inj h1
      exact turn i _ (List.getElem?_eq_getElem hi2) G' H' _ _ a2 (env_set (d := .d _) (dp_mono a1 _ _ h2) a3) a4 fun G2 H2 σ2 g2 gh2 en2 j2 => ⟨G2, a1.trans g2, gh2, en2, j2⟩
    · rw [dpa_len r] at a3 a4
      exact f G' H' σ' (g1.trans a1) a2 a3 a4
end
end PL
namespace PL
open PySem PySem.Spec PyProof.Rows L2 FR
variable [Nm]
/-! ### zip of three tuples -/
def ItzT3 (K : PySem.W.Frag) (a b c : Addr) : It :=
  ⟨fun i H => ∃ (xs ys zs : List V) (x y z : V), SqT K H a xs ∧ SqT K H b ys ∧ SqT K H c zs ∧ xs[i]? = some x ∧ ys[i]? = some y ∧ zs[i]? = some z,
    fun i H v H' => ∃ T x y z, v = .ref T ∧ H T = none ∧ H' = upd H T (.tup [x, y, z]) ∧ (∀ xs, SqT K H a xs → xs[i]? = some x) ∧ (∀ ys, SqT K H b ys → ys[i]? = some y) ∧ ∀ zs, SqT K H c zs → zs[i]? = some z,
    fun i H => ∃ xs ys zs : List V, SqT K H a xs ∧ SqT K H b ys ∧ SqT K H c zs ∧ xs.length = i ∧ ys.length = i ∧ zs.length = i⟩
def St3 (z TI TO i1 i2 i3 a b c : Addr) (i : Nat) (h : Heap) : Prop := IsZip h z TI TO .none ∧ IsTupOf3 h TI (.ref i1) (.ref i2) (.ref i3) ∧ (∃ a1 a2 a3, IsTupOf3 h TO a1 a2 a3) ∧ h.IsTupleIter i1 a i ∧ h.IsTupleIter i2 b i ∧ h.IsTupleIter i3 c i
theorem turn_zip3 {P : Program} {w : World} {K : PySem.W.Frag} {elts : List Expr} {kk : Nat} {tpos : Pos} {a b c N : Addr} (ha : a < N) (hb : b < N) (hc : c < N) :
    Turn P w K (.Tuple elts kk tpos) (ItzT3 K a b c) [N + 5, N + 3, N + 4, N, N + 1, N + 2] (N + 5) (St3 (N + 5) (N + 3) (N + 4) N (N + 1) (N + 2) a b c) where
  mem := by simp
  obj := fun i h st d hd => by
    obtain ⟨hz, hTI, ⟨x, y, u, hTO⟩, ⟨o1, e1, _, d1⟩, ⟨o2, e2, _, d2⟩, ⟨o3, e3, _, d3⟩⟩ := st
    have e' : d = N + 5 ∨ d = N + 3 ∨ d = N + 4 ∨ d = N ∨ d = N + 1 ∨ d = N + 2 := by simpa using hd
    rcases e' with q | q | q | q | q | q
    · rw [q]; exact ⟨_, hz, fun v q => nomatch q⟩
    · rw [q]; exact ⟨_, hTI, fun v q => nomatch q⟩
    · rw [q]; exact ⟨_, hTO, fun v q => nomatch q⟩
    · rw [q]; exact ⟨o1, e1, fun v q => by rw [d1] at q; cases q⟩
    · rw [q]; exact ⟨o2, e2, fun v q => by rw [d2] at q; cases q⟩
    · rw [q]; exact ⟨o3, e3, fun v q => by rw [d3] at q; cases q⟩
  keep := fun i h h' st k => by
    obtain ⟨hz, hTI, ⟨x, y, u, hTO⟩, h1, h2, h3⟩ := st
    exact ⟨k _ (by simp) _ hz, k _ (by simp) _ hTI, ⟨x, y, u, k _ (by simp) _ hTO⟩, h1.at fun o q => k N (by simp) o q, h2.at fun o q => k (N + 1) (by simp) o q, h3.at fun o q => k (N + 2) (by simp) o q⟩
  item := by
    intro X hP hw hK hcm i pins s σ H E I hf st hg
    subst hP hw hK
    obtain ⟨xs, ys, zs, x, y, z, hqx, hqy, hqz, hx, hy, hz0⟩ := hg
    obtain ⟨its, rv, p, _⟩ := I.tuple hqx
    obtain ⟨its2, rv2, p2, _⟩ := I.tuple hqy
    obtain ⟨its3, rv3, p3, _⟩ := I.tuple hqz
    obtain ⟨u, hu, ru⟩ := rv.get hx
    obtain ⟨u2, hu2, ru2⟩ := rv2.get hy
    obtain ⟨u3, hu3, ru3⟩ := rv3.get hz0
    obtain ⟨hz, hTI, hTO, h1, h2, h3⟩ := st
    have hh : X.A.in1.handled = none := I.ok.hd hcm
    have S := zip_sep3 (N := N) (fp1 := [a]) (fp2 := [b]) (fp3 := [c]) (by simpa using ha) (by simpa using hb) (by simpa using hc)
    have D1 := Draws.tuple (prog := X.prog) (w := X.w) hh N a (Nat.ne_of_lt ha) its.toArray
    have D2 := Draws.tuple (prog := X.prog) (w := X.w) hh (N + 1) b (Nat.ne_of_lt (Nat.lt_succ_of_lt hb)) its2.toArray
    have D3 := Draws.tuple (prog := X.prog) (w := X.w) hh (N + 2) c (Nat.ne_of_lt (Nat.lt_succ_of_lt (Nat.lt_succ_of_lt hc))) its3.toArray
    have W := GoesN.zip3 (elts := elts) (x1 := kk) (pos := tpos) S D1 D2 D3
    have hi : i < min (min its.toArray.size its2.toArray.size) its3.toArray.size := by
      have l1 := (List.getElem?_eq_some_iff.mp hu).1
      have l2 := (List.getElem?_eq_some_iff.mp hu2).1
      have l3 := (List.getElem?_eq_some_iff.mp hu3).1
      simp only [List.size_toArray]
      omega
    refine W.goes i s (fun v s2 => ∃ x H', Inv X pins σ H' s2 ∧ RelV x v ∧ (ItzT3 X.K a b c).yld i H x H' ∧ St3 (N + 5) (N + 3) (N + 4) N (N + 1) (N + 2) a b c (i + 1) s2.heap ∧ ∀ b ∈ [N + 5, N + 3, N + 4, N, N + 1, N + 2], H' b = none) E hi ⟨hz, hTI, hTO, ⟨h1, p⟩, ⟨h2, p2⟩, ⟨h3, p3⟩⟩ fun v h' tk hY st' hk htk => ?_
    obtain ⟨T, w1, w2, w3, ev, hT, e1, e2, e3, hTup⟩ := hY
    have e1 : w1 = u := by
      have q : its[i]? = some w1 := by simpa using e1
      rw [hu] at q
      exact (Option.some.inj q).symm
    have e2 : w2 = u2 := by
      have q : its2[i]? = some w2 := by simpa using e2
      rw [hu2] at q
      exact (Option.some.inj q).symm
    have e3 : w3 = u3 := by
      have q : its3[i]? = some w3 := by simpa using e3
      rw [hu3] at q
      exact (Option.some.inj q).symm
    subst e1 e2 e3
    obtain ⟨q1, q2, q3, ⟨q4, _⟩, ⟨q5, _⟩, ⟨q6, _⟩⟩ := st'
    have hm : ∀ d, d ∈ [N + 5, N + 4, N, N + 1, N + 2] → d ∈ [N + 5, N + 3, N + 4, N, N + 1, N + 2] := fun d hd => by
      have e' : d = N + 5 ∨ d = N + 4 ∨ d = N ∨ d = N + 1 ∨ d = N + 2 := by simpa using hd
      rcases e' with z | z | z | z | z <;> rw [z] <;> simp
    have new : ObjOk X.prog X.w (upd H T (.tup [x, y, z])) h' T (.tup [x, y, z]) := ⟨by show 3 ≤ sizeLine; decide, [w1, w2, w3], .cons ru (.cons ru2 (.cons ru3 .nil)), hTup⟩
    have I1 : Inv X pins σ (upd H T (.tup [x, y, z])) { s with heap := h', toks := tk } := I.turnedNew (t' := tk) (ch := [N + 5, N + 4, N, N + 1, N + 2]) (fun b o hb q => hk b o hb q) (fun b hb => hf b (hm b hb)) hT new
    refine ⟨.ref T, _, I1, ev ▸ rfl, ⟨T, x, y, z, rfl, I.hok.fresh hT, rfl, fun l hl => by rw [I.tuple_inj hl hqx]; exact hx, fun l hl => by rw [I.tuple_inj hl hqy]; exact hy, fun l hl => by rw [I.tuple_inj hl hqz]; exact hz0⟩, ⟨q1, q2, q3, q4, q5, q6⟩, fun d hd => ?_⟩
    have hlt : d < s.heap.objs.size := by
      have e' : d = N + 5 ∨ d = N + 3 ∨ d = N + 4 ∨ d = N ∨ d = N + 1 ∨ d = N + 2 := by simpa using hd
      obtain ⟨_, _, _, hTO⟩ := hTO
      rcases e' with q | q | q | q | q | q
      · rw [q]; exact Heap.lt_size hz
      · rw [q]; exact Heap.lt_size hTI
      · rw [q]; exact Heap.lt_size hTO
      · rw [q]; obtain ⟨_, e1, _⟩ := h1; exact Heap.lt_size e1
      · rw [q]; obtain ⟨_, e1, _⟩ := h2; exact Heap.lt_size e1
      · rw [q]; obtain ⟨_, e1, _⟩ := h3; exact Heap.lt_size e1
    rw [upd_ne (Nat.ne_of_lt (Nat.lt_of_lt_of_le hlt hT))]
    exact (hf d hd).1
  done := by
    intro X hP hw hK hcm i pins s σ H E I hf st hg
    subst hP hw hK
    obtain ⟨xs, ys, zs, hqx, hqy, hqz, lx, ly, lz⟩ := hg
    obtain ⟨its, rv, p, _⟩ := I.tuple hqx
    obtain ⟨its2, rv2, p2, _⟩ := I.tuple hqy
    obtain ⟨its3, rv3, p3, _⟩ := I.tuple hqz
    obtain ⟨hz, hTI, hTO, h1, h2, h3⟩ := st
    have hh : X.A.in1.handled = none := I.ok.hd hcm
    have S := zip_sep3 (N := N) (fp1 := [a]) (fp2 := [b]) (fp3 := [c]) (by simpa using ha) (by simpa using hb) (by simpa using hc)
    have D1 := Draws.tuple (prog := X.prog) (w := X.w) hh N a (Nat.ne_of_lt ha) its.toArray
    have D2 := Draws.tuple (prog := X.prog) (w := X.w) hh (N + 1) b (Nat.ne_of_lt (Nat.lt_succ_of_lt hb)) its2.toArray
    have D3 := Draws.tuple (prog := X.prog) (w := X.w) hh (N + 2) c (Nat.ne_of_lt (Nat.lt_succ_of_lt (Nat.lt_succ_of_lt hc))) its3.toArray
    have W := GoesN.zip3 (elts := elts) (x1 := kk) (pos := tpos) S D1 D2 D3
    have ei : i = min (min its.toArray.size its2.toArray.size) its3.toArray.size := by
      have l1 := rv.length
      have l2 := rv2.length
      have l3 := rv3.length
      simp only [List.size_toArray]
      omega
    have hm : ∀ d, d ∈ [N + 5, N + 4, N, N + 1, N + 2] → d ∈ [N + 5, N + 3, N + 4, N, N + 1, N + 2] := fun d hd => by
      have e' : d = N + 5 ∨ d = N + 4 ∨ d = N ∨ d = N + 1 ∨ d = N + 2 := by simpa using hd
      rcases e' with z | z | z | z | z <;> rw [z] <;> simp
    rw [ei] at h1 h2 h3
    exact W.stops s (fun s1 => Inv X pins σ H s1) E ⟨hz, hTI, hTO, ⟨h1, p⟩, ⟨h2, p2⟩, ⟨h3, p3⟩⟩ fun h' tk hk _ => I.turnedL (t' := tk) (ch := [N + 5, N + 4, N, N + 1, N + 2]) (fun b o hb q => hk b o hb q) (fun b hb => hf b (hm b hb))
  self := fun A i s Q E st h => wpAny_pyIter_zip st.1 h
def iZip3 (K : PySem.W.Frag) (ta : TA) : TI := fun σ H R => ta σ H fun vs H1 => ∃ a b c xs ys zs, vs = [.ref a, .ref b, .ref c] ∧ SqT K H1 a xs ∧ SqT K H1 b ys ∧ SqT K H1 c zs ∧ R (ItzT3 K a b c) H1
theorem pi_zip3 {X : Cx} {e e2 e3 : Expr} {ta : TA} {p pos tpos : Pos} {elts : List Expr} {kk : Nat} (hg : Gl X "zip") (hm : X.mg "zip" = none) (ha : PA X [e, e2, e3] ta)
    (hs : starEach [e, e2, e3] X.env = (false, eval e X.env) :: starEach [e2, e3] X.env := by rfl) (hpl : (backTo pos (starEach [e2, e3] X.env)).any (·.1) = false := by rfl) :
    PI X (.Tuple elts kk tpos) (.Call (.Name "zip" p) [e, e2, e3] [] pos) (iZip3 X.K ta) := by
  refine ⟨fun pins s σ H R I h => ?_⟩
  refine Call_ (ld_blt I hg hm PyProof.Rows.boot_zip (PyProof.Rows.callWith_type1 (thn (ha.run pos pins s σ H _ I h) fun us s1 ⟨vs, H1, I1, r1, q1⟩ => ?_) hs hpl))
  obtain ⟨a, b, c, xs, ys, zs, ex, hqx, hqy, hqz, q⟩ := q1
  subst ex
  cases r1 with
  | cons r rr =>
    cases rr with
    | cons r' rr =>
      cases rr with
      | cons r'' rr =>
        cases rr
        cases r
        cases r'
        cases r''
        have fresh : ∀ d, d ∈ [s1.heap.objs.size + 5, s1.heap.objs.size + 3, s1.heap.objs.size + 4, s1.heap.objs.size, s1.heap.objs.size + 1, s1.heap.objs.size + 2] → FpOk X pins H1 d := fun d hd => by
          have hle : s1.heap.objs.size ≤ d := by
            have e' : d = s1.heap.objs.size + 5 ∨ d = s1.heap.objs.size + 3 ∨ d = s1.heap.objs.size + 4 ∨ d = s1.heap.objs.size ∨ d = s1.heap.objs.size + 1 ∨ d = s1.heap.objs.size + 2 := by simpa using hd
            rcases e' with z | z | z | z | z | z
            · rw [z]; exact Nat.le_add_right _ _
            · rw [z]; exact Nat.le_add_right _ _
            · rw [z]; exact Nat.le_add_right _ _
            · rw [z]; exact Nat.le_refl _
            · rw [z]; exact Nat.le_add_right _ _
            · rw [z]; exact Nat.le_add_right _ _
          exact I1.fpOk hle (I1.hok.fresh hle)
        obtain ⟨its, rv, p1, _⟩ := I1.tuple hqx
        obtain ⟨its2, rv2, p2, _⟩ := I1.tuple hqy
        obtain ⟨its3, rv3, p3, _⟩ := I1.tuple hqz
        obtain ⟨o1, ho1, _⟩ := id p1
        obtain ⟨o2, ho2, _⟩ := id p2
        obtain ⟨o3, ho3, _⟩ := id p3
        refine zip_begins3 (begins_tuple a its.toArray) (begins_tuple b its2.toArray) (begins_tuple c its3.toArray) p1 p2 p3 fun h' hz hTI hTO g1 g2 g3 hsz hk => wpAny_pyIter_zip hz ?_
        have I2 : Inv X pins σ H1 { s1 with heap := h' } := I1.kept (t' := s1.toks) hk
        exact ⟨_, [s1.heap.objs.size + 5, s1.heap.objs.size + 3, s1.heap.objs.size + 4, s1.heap.objs.size, s1.heap.objs.size + 1, s1.heap.objs.size + 2], _, _, H1, rfl, I2, turn_zip3 (Heap.lt_size ho1) (Heap.lt_size ho2) (Heap.lt_size ho3), ⟨hz, hTI, ⟨_, _, _, hTO⟩, ⟨_, g1, rfl, rfl⟩, ⟨_, g2, rfl, rfl⟩, ⟨_, g3, rfl, rfl⟩⟩, fresh, q⟩
end PL
namespace PL
open PySem PySem.Spec PyProof.Rows L2 FR
variable [Nm]
section
variable {K : PySem.W.Frag} {ρ ρ1 ρ2 : Rho} {I J L N : Asn} {ta tb tc te : TE} {d e : Dat} {t u : TT} {b c : Bool} {ts us : TS} {k : Out} {tr : TA} {q : Addr} {ds : List PyData} {x y : PyData}
theorem e_post {J' : Asn} (h : ∀ G H, J.ok G H → J'.ok G H) (hs : E K te ρ I d J) : E K te ρ I d J' := fun G H σ gh en io Q q => hs G H σ gh en io Q fun v G2 H2 a b j => q v G2 H2 a b (h G2 H2 j)
theorem e_pre {I' : Asn} (h : ∀ G H, I.ok G H → I'.ok G H) (hs : E K te ρ I' d J) : E K te ρ I d J := fun G H σ gh en io Q q => hs G H σ gh en (h G H io) Q q
/-! ### targets -/
def GJ (K : PySem.W.Frag) (g : TG) (x : PyData) (ρ ρ' : Rho) : Prop := ∀ G H σ v (Q : L2.St → Hp → Prop), Same G H → EnvD K G σ ρ → Dp K G v x → (∀ σ', EnvD K G σ' ρ' → Q σ' H) → g v σ H Q
def GJs (K : PySem.W.Frag) (g : TGs) (xs : List PyData) (ρ ρ' : Rho) : Prop := ∀ G H σ vs (Q : L2.St → Hp → Prop), Same G H → EnvD K G σ ρ → DpAll K G vs xs → (∀ σ', EnvD K G σ' ρ' → Q σ' H) → g vs σ H Q
theorem g_name {i : Nat} : GJ K (gName i) x ρ (ρ.set i (some (.d x))) := fun G H σ v Q gh en dv q => q _ (env_set (d := .d x) dv en)
theorem g_tup {g : TGs} {n : Nat} (hn : ds.length = n) (h : GJs K g ds ρ ρ1) : GJ K (gTup K n g) (.tuple ds) ρ ρ1 := fun G H σ v Q gh en dv q => by
  cases dv with
  | tup s r => exact ⟨_, _, rfl, same_t gh s, by rw [dpa_len r, hn], h G H σ _ Q gh en r q⟩
theorem g_nil : GJs K gNil [] ρ ρ := fun G H σ vs Q gh en dv q => by
  cases dv
  exact ⟨rfl, q σ en⟩
theorem g_cons {g : TG} {gs : TGs} (h : GJ K g x ρ ρ1) (hs : GJs K gs ds ρ1 ρ2) : GJs K (gCons g gs) (x :: ds) ρ ρ2 := fun G H σ vs Q gh en dv q => by
  cases dv with
  | cons a b => exact ⟨_, _, rfl, h G H σ _ _ gh en a fun σ' en' => hs G H σ' _ Q gh en' b q⟩
theorem s_asgG {g : TG} (h : E K te ρ I (.d x) J) (hg : GJ K g x ρ ρ1) : S K (tAsg te g) ρ I (.nx ρ1 J) := fun G H σ D gh en io f => h G H σ gh en io _ fun v G1 H1 g1 gh1 j1 dv => hg G1 H1 σ v _ gh1 (env_mono g1 en) dv fun σ' en' => f G1 H1 σ' g1 gh1 en' j1
/-! ### for, with any target, that may be left by a return in turn m -/
def Out.isRt (k : Out) : Prop := ∃ d J, k = .rt d J
/-- the turns: turn i goes on for i < m; m is the end, or turn m returns -/
structure Turns (K : PySem.W.Frag) (g : TG) (ts : TS) (xs : Nat → Option PyData) (n : Nat) (P : Nat → Rho) (V : Nat → Asn) (m : Nat) (k : Out) : Prop where
  le : m ≤ n
  go : ∀ i x, i < m → xs i = some x → ∃ ρ', GJ K g x (P i) ρ' ∧ S K ts ρ' (V i) (.nx (P (i + 1)) (V (i + 1)))
  fin : (m = n ∧ k = .nx (P n) (V n)) ∨ (m < n ∧ k.isRt ∧ ∀ x, xs m = some x → ∃ ρ', GJ K g x (P m) ρ' ∧ S K ts ρ' (V m) k)
theorem Turns.all {g : TG} {xs : Nat → Option PyData} {n : Nat} {P : Nat → Rho} {V : Nat → Asn} (go : ∀ i x, i < n → xs i = some x → ∃ ρ', GJ K g x (P i) ρ' ∧ S K ts ρ' (V i) (.nx (P (i + 1)) (V (i + 1)))) : Turns K g ts xs n P V n (.nx (P n) (V n)) := ⟨Nat.le_refl _, go, .inl ⟨rfl, rfl⟩⟩
/-- one turn, at the item v (data x): what the loop's rules ask -/
theorem Turns.turn {g : TG} {xs : Nat → Option PyData} {n : Nat} {P : Nat → Rho} {V : Nat → Asn} {m : Nat} (T : Turns K g ts xs n P V m k) {D : Ends} {G0 G' H : Hp} {σ : L2.St} {i : Nat} {v : L2.V} (f : Fin K D G0 k) (hi : i < n) (him : i ≤ m) (hx : xs i = some x) (a1 : Same G0 G') (a2 : Same G' H) (en : EnvD K G' σ (P i)) (vo : (V i).ok G' H) (dv : Dp K G' v x) :
    ∃ N : L2.St → Hp → Prop, (∀ σ' H', N σ' H' → i < m ∧ ∃ G2, Same G0 G2 ∧ Same G2 H' ∧ EnvD K G2 σ' (P (i + 1)) ∧ (V (i + 1)).ok G2 H') ∧ g v σ H fun σ2 H2 => ts { D with nx := N, ct := N, bk := D.nx } σ2 H2 := by
  by_cases c : i < m
  · obtain ⟨ρ', hg, hs⟩ := T.go i x c hx
    refine ⟨fun σ' H' => i < m ∧ ∃ G2, Same G0 G2 ∧ Same G2 H' ∧ EnvD K G2 σ' (P (i + 1)) ∧ (V (i + 1)).ok G2 H', fun _ _ z => z, ?_⟩
    exact hg G' H σ v _ a2 en dv fun σ' en' => hs G' H σ' _ a2 en' vo fun G2 H2 σ2 g2 gh2 en2 j2 => ⟨c, G2, a1.trans g2, gh2, en2, j2⟩
  · obtain rfl : i = m := by omega
    rcases T.fin with ⟨e, _⟩ | ⟨_, hk, ht⟩
    · omega
    · obtain ⟨ρ', hg, hs⟩ := ht x hx
      obtain ⟨d, J, rfl⟩ := hk
      refine ⟨fun _ _ => False, fun _ _ z => z.elim, ?_⟩
      exact hg G' H σ v _ a2 en dv fun σ' en' => hs G' H σ' _ a2 en' vo (f.mono a1 : Fin K D G' (.rt d J))
theorem s_forLG {tl : TE} {g : TG} {P : Nat → Rho} {V : Nat → Asn} {m : Nat} (hl : E K tl ρ I (.d (.list ds)) (V 0)) (h0 : ρ = P 0) (T : Turns K g ts (fun i => ds[i]?) ds.length P V m k) : S K (tFor (iList K tl) g ts) ρ I k := fun G H σ D gh en io f => by
  refine hl G H σ gh en io _ fun v G1 H1 g1 gh1 j1 dv => ?_
  cases dv with
  | lst s r =>
    rename_i a xs
    subst h0
    have lx := dpa_len r
    refine ⟨a, rfl, ⟨_, gh1.seq s⟩, fun i mm σ' H' => mm = ds.length - i ∧ i ≤ m ∧ ∃ G', Same G1 G' ∧ Same G' H' ∧ EnvD K G' σ' (P i) ∧ (V i).ok G' H', ⟨ds.length, rfl, Nat.zero_le _, G1, Same.refl _, gh1, env_mono g1 en, j1⟩, fun i mm σ' H' hw => ?_⟩
    obtain ⟨rfl, him, G', a1, a2, a3, a4⟩ := hw
    have hm := T.le
    by_cases hi : i < ds.length
    · have hix : i < xs.length := by omega
      obtain ⟨w, h1, h2⟩ := dpa_get r (List.getElem?_eq_getElem hi)
      have sq := (a1.trans a2).seq s
      obtain ⟨N, hN, hg⟩ := T.turn (v := w) (f.mono g1) hi him (List.getElem?_eq_getElem hi) a1 a2 a3 a4 (dp_mono a1 _ _ h2)
      refine .inr ⟨⟨xs, w, sq, h1⟩, N, fun σ2 H2 z => ?_, fun x H2 y => ?_⟩
      · obtain ⟨c, w2⟩ := hN σ2 H2 z
        exact ⟨ds.length - (i + 1), by omega, rfl, c, w2⟩
      · obtain ⟨rfl, y2⟩ := y
        have ex : x = w := Option.some.inj ((y2 xs sq).symm.trans h1)
        rw [ex]
        exact hg
    · have e : i = ds.length := by omega
      subst e
      rcases T.fin with ⟨e, rfl⟩ | ⟨lt, _⟩
      · exact .inl ⟨⟨xs, (a1.trans a2).seq s, by omega⟩, f G' H' σ' (g1.trans a1) a2 a3 a4⟩
      · omega
/-- the i-th items of three rows -/
def zip3 (xs ys zs : List PyData) (i : Nat) : Option PyData := match xs[i]?, ys[i]?, zs[i]? with
  | some x, some y, some z => some (.tuple [x, y, z])
  | _, _, _ => none
theorem s_forZ3 {g : TG} {xs ys zs : List PyData} {P : Nat → Rho} {V : Nat → Asn} {m n : Nat} (hl : A K tr ρ I [.t xs, .t ys, .t zs] (V 0)) (hx : xs.length = n) (hy : ys.length = n) (hz : zs.length = n) (h0 : ρ = P 0) (T : Turns K g ts (zip3 xs ys zs) n P V m k) : S K (tFor (iZip3 K tr) g ts) ρ I k := fun G H σ D gh en io f => by
  refine hl G H σ gh en io _ fun vs G1 H1 g1 gh1 j1 dvs => ?_
  match vs, dvs with
  | [v1, v2, v3], ⟨d1, d2, d3, _⟩ =>
    cases d1 with
    | tup s1 r1 =>
      cases d2 with
      | tup s2 r2 =>
        cases d3 with
        | tup s3 r3 =>
          rename_i a1 us1 a2 us2 a3 us3
          subst h0
          have l1 := dpa_len r1
          have l2 := dpa_len r2
          have l3 := dpa_len r3
          refine ⟨a1, a2, a3, us1, us2, us3, rfl, same_t gh1 s1, same_t gh1 s2, same_t gh1 s3, fun i mm σ' H' => mm = n - i ∧ i ≤ m ∧ ∃ G', Same G1 G' ∧ Same G' H' ∧ EnvD K G' σ' (P i) ∧ (V i).ok G' H', ⟨n, rfl, Nat.zero_le _, G1, Same.refl _, gh1, env_mono g1 en, j1⟩, fun i mm σ' H' hw => ?_⟩
          obtain ⟨rfl, him, G', b1, b2, b3, b4⟩ := hw
          have hm := T.le
          have q1 := same_t (b1.trans b2) s1
          have q2 := same_t (b1.trans b2) s2
          have q3 := same_t (b1.trans b2) s3
          by_cases hi : i < n
          · have e1 := List.getElem?_eq_getElem (l := xs) (i := i) (by omega)
            have e2 := List.getElem?_eq_getElem (l := ys) (i := i) (by omega)
            have e3 := List.getElem?_eq_getElem (l := zs) (i := i) (by omega)
            obtain ⟨w1, h1, p1⟩ := dpa_get r1 e1
            obtain ⟨w2, h2, p2⟩ := dpa_get r2 e2
            obtain ⟨w3, h3, p3⟩ := dpa_get r3 e3
            have hzip : zip3 xs ys zs i = some (.tuple [xs[i], ys[i], zs[i]]) := by
              unfold zip3
              rw [e1, e2, e3]
            -- the new tuple may stand anywhere that is free
            by_cases c : i < m
            · obtain ⟨ρ', hg, hs⟩ := T.go i _ c hzip
              refine .inr ⟨⟨us1, us2, us3, w1, w2, w3, q1, q2, q3, h1, h2, h3⟩, fun σ2 H2 => i < m ∧ ∃ G2, Same G1 G2 ∧ Same G2 H2 ∧ EnvD K G2 σ2 (P (i + 1)) ∧ (V (i + 1)).ok G2 H2, fun σ2 H2 z => ⟨n - (i + 1), by omega, rfl, z⟩, fun x H2 y => ?_⟩
              obtain ⟨Tp, x1, x2, x3, rfl, nT, rfl, f1, f2, f3⟩ := y
              obtain rfl : x1 = w1 := Option.some.inj ((f1 us1 q1).symm.trans h1)
              obtain rfl : x2 = w2 := Option.some.inj ((f2 us2 q2).symm.trans h2)
              obtain rfl : x3 = w3 := Option.some.inj ((f3 us3 q3).symm.trans h3)
              have st := Stp.new (o := .tup [x1, x2, x3]) b2 nT
              have c1 := b1.trans st.gg
              exact hg _ _ σ' _ _ st.gh (env_mono st.gg b3) (.tup (.inl (.inl upd_same)) (.cons (dp_mono c1 _ _ p1) (.cons (dp_mono c1 _ _ p2) (.cons (dp_mono c1 _ _ p3) .nil)))) fun σ2 en2 => hs _ _ σ2 _ st.gh en2 (Asn.pure_st st b4) fun G2 H2 σ3 g2 gh2 en3 j3 => ⟨c, G2, c1.trans g2, gh2, en3, j3⟩
            · obtain rfl : i = m := by omega
              rcases T.fin with ⟨e, _⟩ | ⟨_, hk, ht⟩
              · omega
              · obtain ⟨ρ', hg, hs⟩ := ht _ hzip
                obtain ⟨d, J, rfl⟩ := hk
                refine .inr ⟨⟨us1, us2, us3, w1, w2, w3, q1, q2, q3, h1, h2, h3⟩, fun _ _ => False, fun _ _ z => z.elim, fun x H2 y => ?_⟩
                obtain ⟨Tp, x1, x2, x3, rfl, nT, rfl, f1, f2, f3⟩ := y
                obtain rfl : x1 = w1 := Option.some.inj ((f1 us1 q1).symm.trans h1)
                obtain rfl : x2 = w2 := Option.some.inj ((f2 us2 q2).symm.trans h2)
                obtain rfl : x3 = w3 := Option.some.inj ((f3 us3 q3).symm.trans h3)
                have st := Stp.new (o := .tup [x1, x2, x3]) b2 nT
                have c1 := b1.trans st.gg
                exact hg _ _ σ' _ _ st.gh (env_mono st.gg b3) (.tup (.inl (.inl upd_same)) (.cons (dp_mono c1 _ _ p1) (.cons (dp_mono c1 _ _ p2) (.cons (dp_mono c1 _ _ p3) .nil)))) fun σ2 en2 => hs _ _ σ2 _ st.gh en2 (Asn.pure_st st b4) ((f.mono g1).mono c1 : Fin K D _ (.rt d J))
          · have e : i = n := by omega
            subst e
            rcases T.fin with ⟨e, rfl⟩ | ⟨lt, _⟩
            · exact .inl ⟨⟨us1, us2, us3, q1, q2, q3, by omega, by omega, by omega⟩, f G' H' σ' (g1.trans b1) b2 b3 b4⟩
            · omega
/-! ### new lists -/
/-! ### [x for x in xs if t] -/
/-! ### lists that change by place -/
/-- x = [a, b, ..], to be changed -/
theorem s_newLA {i : Nat} {ds : List Dat} {xs : List PyData} (hr : A K tr ρ I ds J) (hd : Ds ds xs) (hl : xs.length ≤ 100000) (h : ∀ q, ¬ J.foot q → S K us (ρ.set i (some (.r q))) (lJ K q xs J) k) : S K (tSeq (tAsg (tLst tr) (gName i)) us) ρ I k := fun G H σ D gh en io f =>
  hr G H σ gh en io _ fun vs G1 H1 g1 gh1 j1 dxs => by
    have r : DpAll K G1 vs xs := dva_dp (by rw [← hd.map]; exact dxs)
    refine ⟨by rw [dpa_len r]; exact sz_of hl, fun p hp => ?_⟩
    have s := Stp.newM (o := HO.lst vs) gh1 hp
    have gp : G1 p = none := gh1.free hp
    refine h p (fun z => ?_) G1 _ _ D s.gh (env_set (d := .r p) rfl (env_mono g1 en)) ⟨⟨gp, vs, upd_same, r⟩, Asn.pure_st s j1⟩ (f.mono g1)
    obtain ⟨o, ho⟩ := J.own G1 H1 p j1 z
    rw [ho] at hp
    cases hp
theorem dpa_set {G : Hp} {v : V} (hv : Dp K G v x) : ∀ {vs : List V} {ds : List PyData} (n : Nat), DpAll K G vs ds → DpAll K G (vs.set n v) (ds.set n x)
  | _, _, _, .nil => .nil
  | _, _, 0, .cons _ b => .cons hv b
  | _, _, n + 1, .cons a b => .cons a (dpa_set hv n b)
/-- x[j] = e -/
theorem s_setL {i j : Nat} (he : E K te ρ I (.d x) (lJ K q ds J)) (hi : ρ[i]? = some (some (.r q))) (hb : E K tb ρ (lJ K q ds J) (.i (j : Nat)) (lJ K q ds J)) (hj : j < ds.length) (hf : ¬ J.foot q) :
    S K (tAsg te (gSub (tVar i) tb rSetL)) ρ I (.nx ρ (lJ K q (ds.set j x) J)) := fun G H σ D gh en io f => he G H σ gh en io _ fun v G1 H1 g1 gh1 j1 dv => by
  obtain ⟨w, hw, rfl⟩ := env_get (env_mono g1 en) hi
  refine ⟨.ref q, hw, hb G1 H1 σ gh1 (env_mono g1 en) j1 _ fun u G2 H2 g2 gh2 j2 du => ?_⟩
  obtain rfl := dv_int du
  obtain ⟨⟨gq, vs, hq, r⟩, jo⟩ := j2
  have lv := dpa_len r
  have s := Stp.store (o := HO.lst (vs.set j v)) gh2 gq hq
  refine ⟨q, vs, (j : Int), j, rfl, rfl, hq, ?_, ?_⟩
  · unfold ixN
    rw [if_pos (by omega), if_pos (by omega)]
    simp
  · exact f G2 _ σ (g1.trans g2) s.gh (env_mono (g1.trans g2) en) ⟨⟨gq, _, upd_same, dpa_set (dp_mono g2 _ _ dv) j r⟩, J.st _ _ _ _ _ (fun a fa (z : a = q) => hf (z ▸ fa)) s jo⟩
theorem dv_non {G : Hp} {v : V} (h : Dv K G v (.d .none)) : v = .non := by
  cases h
  rfl
/-- x is None, of data that is told -/
def isNon : PyData → Bool
  | .none => true
  | _ => false
theorem non_dec {G : Hp} {v : V} {x : PyData} (h : Dp K G v x) : decide (v = .non) = isNon x := by
  cases h <;> simp [isNon]
theorem e_isN (ha : E K ta ρ I (.d x) J) (hb : E K tb ρ J (.d .none) L) : E K (tOp (fun x y H Q => y = .non ∧ Q (.bl (decide (x = .non))) H) ta tb) ρ I (.b (isNon x)) L :=
  e_op ha hb fun G H a b gh lo dx dy Q q => ⟨dv_non dy, q _ G H (Same.refl _) gh lo (by rw [non_dec dx]; exact .bl _)⟩
theorem e_notN (ha : E K ta ρ I (.d x) J) (hb : E K tb ρ J (.d .none) L) : E K (tOp (fun x y H Q => y = .non ∧ Q (.bl (!decide (x = .non))) H) ta tb) ρ I (.b (!isNon x)) L :=
  e_op ha hb fun G H a b gh lo dx dy Q q => ⟨dv_non dy, q _ G H (Same.refl _) gh lo (by rw [non_dec dx]; exact .bl _)⟩
/-- a constant of the module -/
theorem e_glob {a : Addr} (h : ∀ G, Dp K G (.ref a) x) : E K (tC (.ref a)) ρ I (.d x) I := fun G H σ gh en io Q q => q _ G H (Same.refl _) gh io (h G)
theorem dp_const {a : Addr} {xs : List V} (h : ∀ G, SqT K G a xs) (hx : ∀ G, DpAll K G xs ds) : ∀ G, Dp K G (.ref a) (.tuple ds) := fun G => .tup (h G) (hx G)
theorem const_t {a : Addr} {o : Obj} {its : Array Value} {n : Nat} {xs : List V} (hk : K.lookup a = some o) (hc : o.cls = .type "tuple") (hd : o.data = .seq its n) (hz : its.size ≤ 100) (r : Vals xs its.toList) : ∀ G, SqT K G a xs := fun G => .inr ⟨o, its, n, hk, hc, hd, Nat.le_trans hz (by decide), r⟩
end
end PL
set_option maxHeartbeats 1000000
/-! generator expressions whose elements call defs: all(..), any(..) of them -/
namespace GX
open PySem PySem.Spec PyProof.Rows L2 GenW GxR
theorem over_gl {A : Around} {elt : Expr} {gs : List Comprehension} {sc : Scope} {p : Pos} {it acc : Value} {env : Env} :
    A.over (.compLoop (.GeneratorExp elt gs sc p) 0 it acc env) [] = A.deeper env := by
  first
    | rfl
    | (obtain ⟨hd, d, fr, gs, u⟩ := A; simp [Around.over, Around.deeper, marksOver, frameCount, unitsOf, envsOf, guardsOf, pushEnvs, pushGuards, Code.envs, Code.env?, Code.isFrame, Code.guards, Code.isGuard, Code.weight, Code.frames, Code.isCreation, Code.isCaller, Code.cUnits])
/-- the frame of a generator expression within X's def: made at s with the heap H, the walked thing's own objects at fp, run at B -/
def gcx (X : Cx) (B : Around) (s : Shared) (H : Hp) (ge : Env) (fp : List Addr) : Cx where
  prog := X.prog
  w := X.w
  K := X.K
  mg := X.mg
  base := X.base
  A := B
  N := X.N
  s_0 := s
  H_0 := H
  env := ge
  outer := X.stack
  stack := ge :: X.stack
  ex := fp
  fn := fun _ => false
  calm := true
  pn := []
  xe := fun _ _ => False
/-- the environment of that frame -/
abbrev gev (X : Cx) (scope : Scope) (C : Addr) (code : Value) : Env := genEnv scope (cloFrom X.env.cells scope.names []) C code builtinsNs X.env
section
variable {X : Cx} {pins : List (Addr × Obj)} {σ : L2.St} {H : Hp} {s : Shared}
theorem start_ok {scope : Scope} {own : List (Str × Nat)} {fp : List Addr} {B : Around} {code : Value} {h' : Heap} {g' : Array GenState} {t' : Nat} {m : Str → Option Value}
    (I : Inv X pins σ H s) (ok : BlkOk X.N X.env.scope scope own) (nc : ∀ y ∈ scope.names, y.2 ≠ .cell) (hN : X.N.Nodup) (hfp : ∀ b ∈ fp, FpOk X pins H b ∧ b < s.heap.objs.size)
    (hd : B.handled = none) (hF : B.frames = some (gev X scope s.heap.objs.size code :: X.stack)) (hns : h'.Ns s.heap.objs.size m)
    (kp : ∀ b o, s.heap.get? b = some o → h'.get? b = some o) (hg : AllBare g') :
    Inv (gcx X B s H (gev X scope s.heap.objs.size code) fp) [] (wipe σ (own.map (·.2))) H { s with heap := h', gens := g', toks := t' } := by
  have fr : ∀ y ∈ scope.names, y.2 = .free → ∃ c, X.env.cells.lookup y.1 = some c := fun y hy e => (ok.free y hy e).elim (fun k => I.ok.has _ (.inl k)) fun k => I.ok.has _ (.inr k)
  have cm : ∀ {y : Str} {c : Addr}, (y, c) ∈ cloFrom X.env.cells scope.names [] → X.env.cells.lookup y = some c ∧ c < s.heap.objs.size := by
    intro y c hm
    rcases cloFrom_mem hm with z | ⟨z, rfl⟩
    · cases z
    · obtain ⟨c, hc⟩ := fr _ z rfl
      obtain ⟨w, k⟩ := I.cell _ _ hc
      rw [hc]
      exact ⟨rfl, k.lt⟩
  have cl : ∀ {y : Str} {c : Addr}, (gev X scope s.heap.objs.size code).cells.lookup y = some c → X.env.cells.lookup y = some c ∧ c < s.heap.objs.size := fun e => cm (PySem.mem_of_lookup e)
  have kd : ∀ {y : Str} {k : NameKind}, (gev X scope s.heap.objs.size code).kindOf y = some k → (y, k) ∈ scope.names := fun e => PySem.mem_of_lookup e
  have kcell : ∀ {y : Str}, (gev X scope s.heap.objs.size code).kindOf y ≠ some .cell := fun {y} e => nc _ (kd e) rfl
  have has : ∀ {y : Str}, (gev X scope s.heap.objs.size code).kindOf y = some .free → ∃ c, (gev X scope s.heap.objs.size code).cells.lookup y = some c := fun {y} e => mem_lookup (cloFrom_has (cells := X.env.cells) (acc := []) (kd e))
  have okG : (gcx X B s H (gev X scope s.heap.objs.size code) fp).Ok := {
    mod := I.ok.mod
    kind := ok.kind
    glob := I.ok.glob
    blt := rfl
    above := Nat.le_refl _
    inj := fun y z c e1 e2 => I.ok.inj y z c (cl e1).1 (cl e2).1
    has := fun y hy => hy.elim (fun k => (kcell k).elim) fun k => has k
    cab := fun y c z _ => by cases (show false = true from z)
    hd := fun _ => hd
    frames := hF
    stk := .inr ⟨rfl, rfl⟩
    exf := fun b hb => ⟨Nat.ne_of_lt (hfp b hb).2, fun y c e z => (hfp b hb).1.2.2.2.2.1 y c (cl e).1 z⟩
    bs := I.bs
    bsz := Nat.le_trans I.ok.bsz I.sz
    noex := fun b o e hb => by
      rcases (hfp b hb).1.2.2.2.1 with z | z
      · exact I.ok.noex b o e z
      · exact Nat.lt_irrefl _ (Nat.lt_of_lt_of_le (Heap.lt_size e) (Nat.le_trans I.ok.bsz z))
    exfs := fun b hb z => (List.mem_cons.mp (I.stkSub b z)).elim (hfp b hb).1.2.1 (hfp b hb).1.2.2.1
    funs := I.stack
    frf := I.stkFree }
  refine {
    ok := okG
    os := rfl
    bare := hg
    base := Un.kept kp
    loc := ⟨m, hns, fun i y v e1 e2 e3 => ?_⟩
    cell := fun y c e => (I.cell y c (cl e).1).imp fun w k => k.keeps kp
    free := I.hok.fresh (Nat.le_refl _)
    freeC := fun y c e => I.freeC y c (cl e).1
    pin := fun p hp => absurd (show p ∈ ([] : List (Addr × Obj)) ++ [] from hp) (by simp)
    hok := I.hok.kept kp
    len := (wipe_length _ _).trans I.len }
  obtain ⟨e2, hne⟩ := wipe_some e2
  have nown : ¬ ((y, NameKind.local) ∈ scope.names) := fun hy => by
    rcases ok.own _ hy (.inl rfl) with z | z
    · obtain ⟨p, hp, hpy⟩ := List.mem_map.mp z
      have e4 := ok.ix p hp
      rw [show p.1 = y from hpy] at e4
      exact hne (List.mem_map.mpr ⟨p, hp, nodup_ix hN e4 e1⟩)
    · exact z (List.mem_of_getElem? e1)
  have hv : (gev X scope s.heap.objs.size code).kindOf y = some .free := by
    rcases e3 with k | k | k
    · exact (nown (kd k)).elim
    · exact (kcell k).elim
    · exact k
  obtain ⟨m0, _, hl⟩ := I.loc
  have hvX : Vis X.env.scope y := (ok.free _ (kd hv) rfl).elim (fun k => .inr (.inl k)) fun k => .inr (.inr k)
  obtain ⟨u, r, q⟩ := hl i y v e1 e2 hvX
  obtain ⟨c, hc⟩ := has hv
  refine ⟨u, r, .inr ⟨.inr hv, c, hc, ?_⟩⟩
  rcases q with ⟨k, _⟩ | ⟨_, c', e', z⟩
  · have k' : X.env.scope.names.lookup y = some .local := k
    rcases ok.free _ (kd hv) rfl with z | z <;> rw [show X.env.scope.names.lookup y = _ from z] at k' <;> cases k'
  · rw [(cl hc).1] at e'
    cases e'
    exact z.keeps kp
/-- other generators, other tokens: the heap is what counts -/
theorem inv_heap {s' : Shared} (I : Inv X pins σ H s) (hh : s'.heap = s.heap) (ho : s'.os = s.os) (hg : AllBare s'.gens) : Inv X pins σ H s' :=
  { ok := I.ok, os := ho.trans I.os, bare := hg, base := by rw [hh]; exact I.base, loc := by rw [hh]; exact I.loc, cell := by rw [hh]; exact I.cell, free := I.free, freeC := I.freeC, pin := by rw [hh]; exact I.pin, hok := by rw [hh]; exact I.hok, len := I.len }
end
/-! ### the walk within the generator -/
/-- what is told of the elements: the word W by turn and measure; a test that is pol goes on, any other ends it -/
structure Word (J : It) (g : TG) (tt : TT) (te : TE) (vs : List Nat) (τ : L2.St) (pol : Bool) (Dn Et : Hp → Prop) (W : Nat → Nat → Hp → Prop) : Prop where
  turn : ∀ i m H, W i m H → (J.stop i H ∧ Dn H) ∨ (J.go i H ∧ ∃ Nx : Hp → Prop, (∀ H', Nx H' → ∃ m', m' < m ∧ W (i + 1) m' H') ∧ ∀ x H', J.yld i H x H' → g x τ H' fun σ2 H2 => wipe σ2 vs = τ ∧ tt σ2 H2 fun b H3 =>
    if b = true then te σ2 H3 fun y H4 => ∃ r : Bool, y = .bl r ∧ (if r = pol then Nx H4 else Et H4) else Nx H3)
/-- it has come to its end -/
def EndR (X : Cx) (pins : List (Addr × Obj)) (τ : L2.St) (Dn : Hp → Prop) : GenEnd := fun _ _ r s => r = .ok .next ∧ ∃ H, Inv X pins τ H s ∧ Dn H
/-- it hands out a test; woken again where the test is pol -/
def OutY (X : Cx) (pins : List (Addr × Obj)) (τ : L2.St) (pol : Bool) (Et : Hp → Prop) : Protocol := fun _ _ v s kap =>
  ∃ (r : Bool) (H : Hp), v = .bool r ∧ Inv X pins τ H s ∧ ((r ≠ pol ∧ Et H) ∨ (r = pol ∧ ∀ s' : Shared, s'.heap = s.heap → s'.os = s.os → AllBare s'.gens → kap (.send .none) s'))
section
variable {X : Cx} {A : Around} {elt tg iter : Expr} {ifs : List Expr} {scope : Scope} {pos : Pos} {it : Addr} {J : It} {fp : List Addr} {tn : Nat → Heap → Prop} {g : TG} {tt : TT} {te : TE} {vs : List Nat} {τ : L2.St} {pol : Bool} {Dn Et : Hp → Prop} {W : Nat → Nat → Hp → Prop} {pins : List (Addr × Obj)}
theorem walk_seg (hov : A.over (.compLoop (.GeneratorExp elt [⟨tg, iter, ifs, 0⟩] scope pos) 0 (.ref it) .none X.env) [] = X.A) (hxe : X.xe = fun _ _ => False) (hco : X.env.scope.isCoroutine = false) (hc : X.calm = true)
    (T : Turn X.prog X.w X.K tg J fp it tn) (hfp : ∀ b ∈ fp, b ≠ X.env.locals ∧ b ∉ X.fs ∧ (b ∈ X.ex ∨ X.s_0.heap.objs.size ≤ b) ∧ (∀ x c, X.env.cells.lookup x = some c → c ≠ b) ∧ ∀ p ∈ X.pn ++ pins, p.1 ≠ b)
    (pg : PG X tg g) (pt : PTs X ifs tt) (pe : PE X elt te) (hl : ∀ σ : L2.St, wipe σ vs = τ → σ.length = τ.length ∧ ∀ (j : Nat) v, τ[j]? = some (some v) → σ[j]? = some (some v)) (V : Word J g tt te vs τ pol Dn Et W) :
    ∀ (m n i : Nat) (s₀ s : Shared) (H : Hp), m < n → Inv X pins τ H s → tn i s.heap → (∀ b ∈ fp, H b = none) → W i m H →
      Seg (model X.prog X.w) A (EndR X pins τ Dn) (OutY X pins τ pol Et) n s₀ (.compLoop (.GeneratorExp elt [⟨tg, iter, ifs, 0⟩] scope pos) 0 (.ref it) .none X.env)
        ((model X.prog X.w).den (.compLoop (.GeneratorExp elt [⟨tg, iter, ifs, 0⟩] scope pos) 0 (.ref it) .none X.env)) [] s := by
  intro m
  induction m using Nat.strongRecOn with
  | ind m ih =>
    intro n i s₀ s H hmn I st fr w
    have stat : ∀ {H' : Hp}, (∀ b ∈ fp, H' b = none) → ∀ b ∈ fp, FpOk X pins H' b := fun hn b hb => ⟨hn b hb, (hfp b hb).1, (hfp b hb).2.1, (hfp b hb).2.2.1, (hfp b hb).2.2.2.1, (hfp b hb).2.2.2.2⟩
    have nof : ∀ x s', X.xe x s' → False := fun x s' z => by
      rw [hxe] at z
      exact z
    show Seg _ A _ _ _ s₀ _ ((compTurn (.GeneratorExp elt [⟨tg, iter, ifs, 0⟩] scope pos) 0 (.ref it) .none X.env).onRaise (leaving X.env)) [] s
    rw [compTurn_gen, Sem.onRaise_eq_wrap]
    refine seg_bind_wrap (wpAny_standAt ?_)
    refine seg_bind_wrap ?_
    rw [hov]
    rcases V.turn i m H w with ⟨stop, dn⟩ | ⟨go, Nx, hNx, step⟩
    · refine thn (T.done X rfl rfl rfl hc i pins s τ H _ I (stat fr) st stop) fun r s1 ⟨hr, I1⟩ => ?_
      subst hr
      exact seg_end (.ok .next) ⟨rfl, H, I1, dn⟩
    · refine thn (T.item X rfl rfl rfl hc i pins s τ H _ I (stat fr) st go) fun r s1 ⟨u, hr, h1⟩ => ?_
      subst hr
      refine seg_bind_wrap ?_
      rw [hov]
      refine wpAny_mono h1 (fun _ s2 ⟨x, H2, I2, r2, y2, st2, fr2⟩ => ?_) fun _ _ e => e
      have J2 := I2.pinned (stat fr2) (T.obj _ _ st2)
      -- what stays of the walked thing's objects while the element runs
      have back : ∀ {s' : Shared} {σ' : L2.St} {H' : Hp}, Inv X (pins ++ pinsAt fp s2.heap) σ' H' s' → wipe σ' vs = τ → Inv X pins τ H' s' ∧ tn (i + 1) s'.heap ∧ ∀ b ∈ fp, H' b = none := fun {s' σ' H'} K hw => by
        have kept : ∀ b ∈ fp, ∀ o, s2.heap.get? b = some o → s'.heap.get? b = some o ∧ H' b = none := fun b hb o e =>
          ⟨(K.pin (b, o) (List.mem_append_right _ (List.mem_append_right _ (mem_pinsAt hb e)))).1, (K.pin (b, o) (List.mem_append_right _ (List.mem_append_right _ (mem_pinsAt hb e)))).2.1⟩
        refine ⟨K.unpinned.weak (hl σ' hw).1.symm (hl σ' hw).2, T.keep _ _ _ st2 fun b hb o e => (kept b hb o e).1, fun b hb => ?_⟩
        obtain ⟨o, e, _⟩ := T.obj _ _ st2 b hb
        exact (kept b hb o e).2
      refine seg_bind_wrap ?_
      rw [hov]
      refine wpAny_mono (pg.run _ s2 τ H2 x u _ J2 r2 (step x H2 y2)) (fun _ s3 ⟨σ3, H3, I3, hw, q3⟩ => ?_) fun x s' z => (nof x s' z).elim
      refine seg_bind_wrap ?_
      rw [hov]
      refine wpAny_mono (pt.run _ s3 σ3 H3 _ I3 q3) (fun b s4 ⟨H4, I4, q4⟩ => ?_) fun x s' z => (nof x s' z).elim
      cases b with
      | false =>
        obtain ⟨I5, st5, fr5⟩ := back I4 hw
        obtain ⟨m', hm, w'⟩ := hNx H4 q4
        simp only [Bool.false_eq_true, if_false]
        exact seg_again rfl (ih m' hm n (i + 1) s₀ s4 H4 (by omega) I5 st5 fr5 w')
      | true =>
        simp only [if_true]
        have hy : ∀ v, yieldOut X.env v = yieldValue v := fun v => by
          unfold yieldOut
          rw [hco]
          rfl
        simp only [hy]
        rw [Sem.bind_eq_wrap', Sem.bind_eq_wrap', Sem.wrap_wrap, Sem.wrap_wrap]
        refine seg_wrap ?_
        rw [hov]
        refine wpAny_mono (pe.run _ s4 σ3 H4 _ I4 q4) (fun v s5 ⟨y, H5, I5, rv, r, ey, q5⟩ => ?_) fun x s' z => (nof x s' z).elim
        subst ey
        have ev : v = .bool r := rv
        obtain ⟨I6, st6, fr6⟩ := back I5 hw
        obtain ⟨n', rfl⟩ : ∃ n', n = n' + 1 := ⟨n - 1, by omega⟩
        refine seg_at (seg_yield rfl rfl rfl ⟨r, H5, ev, I6, ?_⟩)
        by_cases hr : r = pol
        · rw [if_pos hr] at q5
          refine .inr ⟨hr, fun s' hh ho hg => ?_⟩
          obtain ⟨m', hm, w'⟩ := hNx H5 q5
          exact seg_again rfl (ih m' hm n' (i + 1) s' s' H5 (by omega) (inv_heap I6 hh ho hg) (by rw [hh]; exact st6) fr6 w')
        · rw [if_neg hr] at q5
          exact .inl ⟨hr, q5⟩
theorem walk_from (hov : A.over (.compLoop (.GeneratorExp elt [⟨tg, iter, ifs, 0⟩] scope pos) 0 (.ref it) .none X.env) [] = X.A) (hxe : X.xe = fun _ _ => False) (hco : X.env.scope.isCoroutine = false) (hc : X.calm = true)
    (T : Turn X.prog X.w X.K tg J fp it tn) (hfp : ∀ b ∈ fp, b ≠ X.env.locals ∧ b ∉ X.fs ∧ (b ∈ X.ex ∨ X.s_0.heap.objs.size ≤ b) ∧ (∀ x c, X.env.cells.lookup x = some c → c ≠ b) ∧ ∀ p ∈ X.pn ++ pins, p.1 ≠ b)
    (pg : PG X tg g) (pt : PTs X ifs tt) (pe : PE X elt te) (hl : ∀ σ : L2.St, wipe σ vs = τ → σ.length = τ.length ∧ ∀ (j : Nat) v, τ[j]? = some (some v) → σ[j]? = some (some v)) (V : Word J g tt te vs τ pol Dn Et W)
    {m n : Nat} {s₀ s : Shared} {H : Hp} (hmn : m < n) (I : Inv X pins τ H s) (st : tn 0 s.heap) (fr : ∀ b ∈ fp, H b = none) (w : W 0 m H) :
      Seg (model X.prog X.w) A (EndR X pins τ Dn) (OutY X pins τ pol Et) n s₀ (.compStart (.GeneratorExp elt [⟨tg, iter, ifs, 0⟩] scope pos) 0 (.ref it) .none X.env)
        ((model X.prog X.w).den (.compStart (.GeneratorExp elt [⟨tg, iter, ifs, 0⟩] scope pos) 0 (.ref it) .none X.env)) [] s := by
  have go := walk_seg hov hxe hco hc T hfp pg pt pe hl V m n 0 s₀ s H hmn I st fr w
  show Seg _ A _ _ _ s₀ _ ((compStart (.GeneratorExp elt [⟨tg, iter, ifs, 0⟩] scope pos) 0 (.ref it) .none X.env).onRaise (leaving X.env)) [] s
  unfold compStart
  rw [Sem.onRaise_eq_wrap]
  show Seg _ A _ _ _ s₀ _ ((ask >>= _).wrap _ _ _ _) [] s
  refine seg_bind_wrap (wpAny_askSetting ?_)
  split
  · exact seg_again rfl go
  · refine seg_bind_wrap (wpAny_rule ?_)
    show Seg _ A _ _ _ s₀ _ ((standAt iter.pos >>= _).wrap _ _ _ _) [] s
    exact seg_bind_wrap (wpAny_standAt (seg_bind_wrap (T.self _ 0 s _ _ st (seg_again rfl go))))
/-! ### the consumers -/
/-- the generator at a may be woken: Seg's number n -/
def Awake (X : Cx) (B : Around) (a : Addr) (go : Obj) (gn : Nat) (τ : L2.St) (pol : Bool) (Dn Et : Hp → Prop) (n : Nat) (s : Shared) : Prop :=
  ∃ gs, s.gens[gn]? = some gs ∧ (∃ H, Inv X [(a, go)] τ H s) ∧ gs.Goes (model X.prog X.w) B (EndR X [(a, go)] τ Dn) (OutY X [(a, go)] τ pol Et) n (.send .none) (s.setGen gn .running)
variable {B : Around} {a : Addr} {go : Obj} {gn : Nat}
/-- the next item -/
theorem next_run {Q : Option Value → Shared → Prop} {E : Value → Shared → Prop} {n : Nat} {s : Shared} (hd : B.handled = none) (hr : B.depth < recursionLimit) (hgo : ∀ h : Heap, h.get? a = some go → h.IsGen a gn)
    (h : Awake X B.in1 a go gn τ pol Dn Et n s) (hDn : ∀ s' H, Inv X [(a, go)] τ H s' → Dn H → Q none s')
    (hEt : ∀ s' H, Inv X [(a, go)] τ H s' → Et H → Q (some (.bool (!pol))) s') (hNx : ∀ s' m, n = m + 1 → Awake X B.in1 a go gn τ pol Dn Et m s' → Q (some (.bool pol)) s') :
    wpAny (model X.prog X.w) B (pyNext (.ref a)) Q E s := by
  obtain ⟨gs, hgs, ⟨H0, I0⟩, hg⟩ := h
  have hlt : gn < s.gens.size := (Array.getElem?_eq_some_iff.mp hgs).1
  have isg := hgo _ (I0.pin (a, go) (List.mem_append_right _ (List.mem_singleton.mpr rfl))).1
  refine wpAny_gsz (n := gn + 1) hlt (wpAny_pyNext_genexpQ (P := fun _ _ s1 => ∃ H, Inv X [(a, go)] τ H s1 ∧ Dn H) hd I0.nolimit hr isg hgs hg (fun v s1 gs' hb hv hsz => ?_) fun s1 hp h' hk hsz => ?_)
  · obtain ⟨r, H, rfl, I, q⟩ := hv
    have I' : Inv X [(a, go)] τ H (s1.setGen gn gs') := inv_heap I rfl rfl (allBare_setGen I.bare hb)
    rcases q with ⟨hr, he⟩ | ⟨hr, hk⟩
    · have e : r = !pol := by
        cases r <;> cases pol <;> first | rfl | exact (hr rfl).elim
      rw [e]
      exact hEt _ H I' he
    · subst hr
      have hs1 : gn < s1.gens.size := by
        have z : (s1.setGen gn gs').gens.size = s1.gens.size := setGen_size _ _ _
        have z2 : gn + 1 ≤ (s1.setGen gn gs').gens.size := hsz
        omega
      have k := hk ((s1.setGen gn gs').setGen gn .running) rfl rfl (allBare_setGen I'.bare rfl)
      cases n with
      | zero => exact False.elim k
      | succ m => exact hNx _ m rfl ⟨gs', setGen_at hs1, ⟨H, I'⟩, k⟩
  · obtain ⟨H, I, dn⟩ := hp
    exact hDn _ H (Inv.kept (t' := s1.toks) (inv_heap (s' := s1.setGen gn .finished) I rfl rfl (allBare_setGen I.bare rfl)) hk) dn
theorem all_run {R : Result → Shared → Prop} (hd : B.handled = none) (hr : B.depth < recursionLimit) (hgo : ∀ h : Heap, h.get? a = some go → h.IsGen a gn)
    (hDn : ∀ s' H, Inv X [(a, go)] τ H s' → Dn H → R (.ok (.ret (.bool true))) s') (hEt : ∀ s' H, Inv X [(a, go)] τ H s' → Et H → R (.ok (.ret (.bool false))) s') :
    ∀ (n : Nat) (s : Shared), Awake X B.in1.in1 a go gn τ true Dn Et n s → codeAny (model X.prog X.w) B (.builtin "all.loop" ⟨[.ref a], []⟩) R s := by
  intro n
  induction n with
  | zero =>
    intro s h
    refine codeAny_builtin F.entry_all_loop ?_
    rw [Around.under_plainId F.plain_all_loop _]
    show wpAny _ B.in1 (pyNext (.ref a) >>= _) _ _ s
    refine wpAny_bind (next_run hd hr hgo h (fun s1 H I dn => wpAny_bind (wpAny_rule (wpAny_pure (hDn s1 H I dn)))) (fun s1 H I et => ?_) fun s1 m e _ => by cases e)
    refine wpAny_bind (wpAny_holding (wpAny_truthy_bool (wpAny_bind (wpAny_letGo ?_))))
    exact wpAny_bind (wpAny_rule (wpAny_pure (hEt s1 H I et)))
  | succ n ih =>
    intro s h
    refine codeAny_builtin F.entry_all_loop ?_
    rw [Around.under_plainId F.plain_all_loop _]
    show wpAny _ B.in1 (pyNext (.ref a) >>= _) _ _ s
    refine wpAny_bind (next_run hd hr hgo h (fun s1 H I dn => wpAny_bind (wpAny_rule (wpAny_pure (hDn s1 H I dn)))) (fun s1 H I et => ?_) fun s1 m e aw => ?_)
    · refine wpAny_bind (wpAny_holding (wpAny_truthy_bool (wpAny_bind (wpAny_letGo ?_))))
      exact wpAny_bind (wpAny_rule (wpAny_pure (hEt s1 H I et)))
    · cases e
      refine wpAny_bind (wpAny_holding (wpAny_truthy_bool (wpAny_bind (wpAny_letGo ?_))))
      exact wpAny_pure ⟨plainId_quiet F.plain_all_loop _, ih s1 aw⟩
end
/-! ### the rule -/
/-- the scope of a generator expression -/
structure GSc (scope : Scope) : Prop where
  co : scope.isCoroutine = false
  nc : ∀ y ∈ scope.names, y.2 ≠ .cell
  dot : scope.names.lookup (".0" : Str) = some NameKind.local
def tGen (pol : Bool) (P : Addr) (wi : TI) (g : TG) (tt : TT) (te : TE) (vs : List Nat) : TE := fun σ H Q => wi σ H fun J H1 => TabG H1 P ∧ ∀ H2, Tabbed P H1 H2 →
  ∃ W : Nat → Nat → Hp → Prop, (∃ m, W 0 m H2) ∧ Word J g tt te vs (wipe σ vs) pol (fun H' => Q (.bl pol) H') (fun H' => Q (.bl (!pol)) H') W
/-- a generator of X's frame is ready: what its end means for X -/
def Made (X : Cx) (pins : List (Addr × Obj)) (σ : L2.St) (pol : Bool) (Q : VK) (u : Value) (s : Shared) : Prop :=
  ∃ (Y : Cx) (a : Addr) (go : Obj) (gn n : Nat) (τ : L2.St) (Dn Et : Hp → Prop), u = .ref a ∧ Y.prog = X.prog ∧ Y.w = X.w ∧ (∀ h : Heap, h.get? a = some go → h.IsGen a gn) ∧ Awake Y X.A.in1.in1 a go gn τ pol Dn Et n s ∧ s.heap.IsGen a gn ∧
    (∀ s' H', Inv Y [(a, go)] τ H' s' → Dn H' → EP X pins σ Q (.bool pol) s') ∧ ∀ s' H', Inv Y [(a, go)] τ H' s' → Et H' → EP X pins σ Q (.bool (!pol)) s'
section
variable {X : Cx} {elt tg iter : Expr} {ifs : List Expr} {scope : Scope} {own : List (Str × Nat)} {gpos : Pos} {wi : TI} {g : TG} {tt : TT} {te : TE} {pol : Bool} {c P : Addr} {k : Nat}
theorem gen_core {pins : List (Addr × Obj)} {σ : L2.St} {H : Hp} {s : Shared} {Q : VK} (hr : Room (k + 1) X.A) (TB : TabB X.base X.mg c P) (hcode : X.env.code = .ref c) (ok : BlkOk X.N X.env.scope scope own) (S : GSc scope) (hN : X.N.Nodup) (hi : PI X tg iter wi)
    (hpg : ∀ B s H C code fp, Room k B → PG (gcx X B s H (gev X scope C code) fp) tg g) (hpt : ∀ B s H C code fp, Room k B → PTs (gcx X B s H (gev X scope C code) fp) ifs tt) (hpe : ∀ B s H C code fp, Room k B → PE (gcx X B s H (gev X scope C code) fp) elt te)
    (hs : ∀ v, genFold iter X.env v = pure v) (I : Inv X pins σ H s) (h : tGen pol P wi g tt te (own.map (·.2)) σ H Q) :
    wpAny (model X.prog X.w) X.A (eval (.GeneratorExp elt [⟨tg, iter, ifs, 0⟩] scope gpos) X.env) (Made X pins σ pol Q) X.xe s := by
  have fr : ∀ y ∈ scope.names, y.2 = .free → ∃ c, X.env.cells.lookup y.1 = some c := fun y hy e => (ok.free y hy e).elim (fun k => I.ok.has _ (.inl k)) fun k => I.ok.has _ (.inr k)
  refine wpAny_GeneratorExp_make S.co (closure_ok fr) S.nc S.dot ok.kind (by have := hr.dp; omega) ?_ hs
  refine thn (hi.run pins s σ H _ I h) fun v s1 h1 => thn h1 fun itv s2 h2 => ?_
  obtain ⟨it, fp, tn, J, H1, e, I1, T, st, f1, ⟨ps, hP, htri⟩, q⟩ := h2
  subst e
  refine ⟨I1.nolimit, ?_⟩
  have gP : s2.heap.get? P = some { cls := .none, data := .fields ps } := I1.hok P _ hP
  have hcd : PySem.W.CodeHd s2.heap c P := TB.code.keeps fun b u e => I1.bk b u e
  have key : ∀ (code : Value) (h3 : Heap) (tk : Nat) (more : Array Value), Heap.ExtBut P s2.heap h3 → s2.heap.objs.size ≤ h3.objs.size → h3.get? P = some { cls := .none, data := .fields (ps ++ more) } → TriplesOk (ps ++ more).toList →
      wpAny (model X.prog X.w) X.A (builtinsFor X.env.globals X.env.builtins) (fun bi s₄ =>
        ∀ h', h'.Ns s₄.heap.objs.size (fun y => if y = ".0" then some (.ref it) else none) → Heap.SameBut s₄.heap.objs.size (s₄.heap.push { cls := .type "frame", data := .dict #[] }) h' →
          Made X pins σ pol Q (.ref h'.objs.size) { s₄ with
            gens := s₄.gens.push (.fresh (.compStart (.GeneratorExp elt [⟨tg, iter, ifs, 0⟩] scope gpos) 0 (.ref it) .none (genEnv scope (cloFrom X.env.cells scope.names []) s₄.heap.objs.size code bi X.env))),
            toks := s₄.toks + 1 + 1 + 1,
            heap := h'.push { cls := .type "generator", data := .fields #[.int s₄.gens.size 0, .str "<genexpr>" (s₄.toks + 1), .str (X.env.qual ++ "<genexpr>") (s₄.toks + 1 + 1)] } }) X.xe { s2 with heap := h3, toks := tk } := by
    intro code h3 tk more hx hsz hP3 htri3
    obtain ⟨bm, ob, e1, e2, e3, e4, e5, e6, e7, e8⟩ := TB.bm
    have kp3 : ∀ b u, b ≠ P → s2.heap.get? b = some u → h3.get? b = some u := fun b u hb e => hx b u hb e
    refine wpAny_builtinsFor (m := X.mg) (by rw [I1.ok.glob]; exact (I1.mod.glob.keeps I1.bk).extBut hx TB.gP) e1 e2 (kp3 _ _ e4 (I1.bk _ _ e5)) e6 e7 e8 ?_
    intro h' hns hsb
    -- behind the code object, ahead of the frame
    have I3 : Inv X pins σ (upd H1 P (.tbl (ps ++ more))) { s2 with heap := h3, toks := tk } := inv_tab (g' := s2.gens) (d' := s2.drawn) I1 hP kp3 hP3 I1.bare
    have fnP : ∀ b ∈ fp, b ≠ P := fun b hb z => by
      have := (f1 b hb).1
      rw [z, hP] at this
      cases this
    have st3 : tn 0 h3 := T.keep _ _ _ st fun b hb o e => kp3 b o (fnP b hb) e
    have f3 : ∀ b ∈ fp, FpOk X pins (upd H1 P (.tbl (ps ++ more))) b ∧ b < h3.objs.size := fun b hb => by
      obtain ⟨o, e, _⟩ := T.obj _ _ st3 b hb
      exact ⟨⟨by rw [upd_ne (fnP b hb)]; exact (f1 b hb).1, (f1 b hb).2⟩, Heap.lt_size e⟩
    obtain ⟨W, ⟨m0, w0⟩, V⟩ := q (upd H1 P (.tbl (ps ++ more))) ⟨⟨ps ++ more, upd_same, htri3⟩, fun b hb => upd_ne hb⟩
    have sz' : h'.objs.size = h3.objs.size + 1 := by rw [hsb.1, Heap.size_push]
    have kp' : ∀ b o, h3.get? b = some o → h'.get? b = some o := fun b o e => hsb.extBut b o (Nat.ne_of_lt (Heap.lt_size e)) (Heap.get?_push_of_some _ e)
    generalize hgo : ({ cls := .type "generator", data := .fields #[.int s2.gens.size 0, .str "<genexpr>" (tk + 1), .str (X.env.qual ++ "<genexpr>") (tk + 1 + 1)] } : Obj) = go
    have isG : ∀ h : Heap, h.get? h'.objs.size = some go → h.IsGen h'.objs.size s2.gens.size := fun h e => ⟨go, _, _, e, by rw [← hgo], by rw [← hgo], by rw [← hgo]⟩
    have hB : Room k (X.A.in1.in1.deeper (gev X scope h3.objs.size code)) := ⟨hr.hd, by have := hr.dp; show X.A.depth + 1 + 3 * k + 5 < _; omega, by have := hr.un; show X.A.units + 1 + 1 + 3 + 16 * k + 200 < _; omega⟩
    have hF : (X.A.in1.in1.deeper (gev X scope h3.objs.size code)).frames = some (gev X scope h3.objs.size code :: X.stack) := Around.frames_deeper (by exact I1.ok.frames)
    have g5 : AllBare (s2.gens.push (.fresh (.compStart (.GeneratorExp elt [⟨tg, iter, ifs, 0⟩] scope gpos) 0 (.ref it) .none (gev X scope h3.objs.size code)))) := I1.bare.push rfl
    have Y0 := start_ok (t' := tk + 1 + 1 + 1) I3 ok S.nc hN f3 hB.hd hF hns kp' g5
    have gY := Heap.get?_push_size h' (o := go) (by rw [← hgo]; rfl)
    have Y1 := (Inv.kept (t' := tk + 1 + 1 + 1) (h' := h'.push go) Y0 fun b o e => Heap.get?_push_of_some _ e)
    have Y2 := Y1.pins_of (pins' := [(h'.objs.size, go)]) fun p hp => by
      rw [List.mem_singleton.mp hp]
      exact ⟨gY, Y0.hok.fresh (Nat.le_refl _), Nat.ne_of_gt Y0.lt, Y0.nofs (Nat.le_refl _), fun v z => by rw [← hgo] at z; cases z⟩
    have back : ∀ s' H', Inv (gcx X (X.A.in1.in1.deeper (gev X scope h3.objs.size code)) { s2 with heap := h3, toks := tk } (upd H1 P (.tbl (ps ++ more))) (gev X scope h3.objs.size code) fp) [(h'.objs.size, go)] (wipe σ (own.map (·.2))) H' s' → Inv X pins σ H' s' := fun s' H' K =>
      I3.call' (ch := fp) K.os K.base K.hok K.bare fun b hb => ⟨(f3 b hb).1.2.2.2.1, (f3 b hb).1.2.1, (f3 b hb).1.2.2.2.2.1, (f3 b hb).1.2.2.2.2.2⟩
    refine ⟨gcx X (X.A.in1.in1.deeper (gev X scope h3.objs.size code)) { s2 with heap := h3, toks := tk } (upd H1 P (.tbl (ps ++ more))) (gev X scope h3.objs.size code) fp, h'.objs.size, go, s2.gens.size, m0 + 1, wipe σ (own.map (·.2)), _, _, rfl, rfl, rfl, isG, ⟨.fresh (.compStart (.GeneratorExp elt [⟨tg, iter, ifs, 0⟩] scope gpos) 0 (.ref it) .none (gev X scope h3.objs.size code)), ?_, ⟨_, Y2⟩, rfl, ?_⟩, isG _ gY, fun s' H' K dn => ⟨.bl pol, H', back s' H' K, rfl, dn⟩, fun s' H' K et => ⟨.bl (!pol), H', back s' H' K, rfl, et⟩⟩
    · exact Array.getElem?_push_size ..
    · refine walk_from (X := gcx X (X.A.in1.in1.deeper (gev X scope h3.objs.size code)) { s2 with heap := h3, toks := tk } (upd H1 P (.tbl (ps ++ more))) (gev X scope h3.objs.size code) fp) over_gl rfl S.co rfl T (fun b hb => ⟨(Y0.ok.exf b hb).1, Y0.ok.exfs b hb, .inl hb, (Y0.ok.exf b hb).2, fun p hp => ?_⟩) (hpg _ _ _ _ _ _ hB) (hpt _ _ _ _ _ _ hB) (hpe _ _ _ _ _ _ hB) (fun σ' hw => ?_) V (Nat.lt_succ_self m0) (inv_heap Y2 rfl rfl (allBare_setGen (x := .running) Y2.bare rfl)) ?_ (fun b hb => (f3 b hb).1.1) w0
      · have e : p = (h'.objs.size, go) := by simpa [gcx] using hp
        rw [e]
        exact Nat.ne_of_gt (Nat.lt_trans (f3 b hb).2 (by omega))
      · refine ⟨by rw [← hw, wipe_length], fun j v e => ?_⟩
        rw [← hw] at e
        exact (wipe_some e).1
      · exact T.keep _ _ _ st3 fun b _ o e => Heap.get?_push_of_some _ (kp' b o e)
  cases hf : codeAmong gpos ps.toList with
  | some cv =>
    refine wpAny_genexprCode_hit hcode (hcd.code gP htri) hf ?_
    have z := key cv s2.heap s2.toks #[] (Heap.ExtBut.refl _ _) (Nat.le_refl _) (by rw [Array.append_empty]; exact gP) (by rw [Array.append_empty]; exact htri)
    exact z
  | none =>
    refine wpAny_genexprCodeX hcode (hcd.code gP htri) (hcd.tab gP) hf fun c' h3 tk hx hge hlt hco _ htab _ => ?_
    obtain ⟨o1, vs, f1, tf, fl, tg, inF, tx, tt, op, _, _, _, _, _, _, _, _, _, htr, _⟩ := hco
    exact key _ h3 tk _ hx (Nat.le_trans hge (Nat.le_of_lt hlt)) htab.2 htr
theorem pe_all {p pos : Pos} (hr : Room (k + 1) X.A) (hg : Gl X "all") (hm : X.mg "all" = none) (hb : bootBuiltins "all" = some (.builtin "all")) (TB : TabB X.base X.mg c P) (hcode : X.env.code = .ref c) (ok : BlkOk X.N X.env.scope scope own) (S : GSc scope) (hN : X.N.Nodup) (hi : PI X tg iter wi)
    (hpg : ∀ B s H C code fp, Room k B → PG (gcx X B s H (gev X scope C code) fp) tg g) (hpt : ∀ B s H C code fp, Room k B → PTs (gcx X B s H (gev X scope C code) fp) ifs tt) (hpe : ∀ B s H C code fp, Room k B → PE (gcx X B s H (gev X scope C code) fp) elt te)
    (hs : ∀ v, genFold iter X.env v = pure v)
    (he : starEach [.GeneratorExp elt [⟨tg, iter, ifs, 0⟩] scope gpos] X.env = (false, eval (.GeneratorExp elt [⟨tg, iter, ifs, 0⟩] scope gpos) X.env) :: starEach [] X.env := by rfl) :
    PE X (.Call (.Name "all" p) [.GeneratorExp elt [⟨tg, iter, ifs, 0⟩] scope gpos] [] pos) (tGen true P wi g tt te (own.map (·.2))) := by
  refine ⟨fun pins s σ H Q I h => ?_⟩
  refine wpAny_Call_Name_kw (ld_blt I hg hm hb ?_)
  refine PyProof.Rows.callWith_builtin1 ?_ he (by rfl)
  rw [he]
  show wpAny _ _ (spliced ((false, eval (.GeneratorExp elt [⟨tg, iter, ifs, 0⟩] scope gpos) X.env) :: backTo pos (starEach [] X.env))) _ _ s
  refine Calls.spliced_cons (thn (gen_core hr TB hcode ok S hN hi hpg hpt hpe hs I h) fun v s1 h1 => ?_)
  obtain ⟨Y, a, go, gn, n, τ, Dn, Et, rfl, ep, ew, isG, aw, ig, hDn, hEt⟩ := h1
  refine Calls.spliced_nil ?_
  refine call_function_tree F.kind_all F.plain_all F.entry_all (F.args_all1 _) ?_
  unfold Builtin.«all»
  refine wpAny_bind (m := oneArg "all" _) (wpAny_pure ?_)
  refine wpAny_bind (wpAny_pyIter_gen ig ?_)
  refine wpAny_pure ⟨plainId_quiet F.plain_all_loop _, ?_⟩
  rw [← ep, ← ew]
  exact all_run hr.hd (by have := hr.dp; omega) isG hDn hEt n s1 aw
end
end GX
namespace PL
open PySem PySem.Spec PyProof.Rows L2 FR GX
variable [Nm]
/-! ### targets of a generator expression: what is told of the wiped slots stays -/
theorem wipe_put {x : Option V} {i : Nat} : ∀ (vs : List Nat) (σ : List (Option V)), wipe (σ.set i x) vs = if i ∈ vs then wipe σ vs else (wipe σ vs).set i x
  | [], σ => by simp [wipe]
  | v :: vs, σ => by
    have ih := wipe_put (x := x) (i := i) vs σ
    show (wipe (σ.set i x) vs).set v none = _
    rw [ih]
    by_cases e : i = v
    · subst e
      rw [if_pos List.mem_cons_self]
      show _ = (wipe σ vs).set i none
      split
      · rfl
      · rw [List.set_set]
    · by_cases m : i ∈ vs
      · rw [if_pos m, if_pos (List.mem_cons_of_mem _ m)]
        rfl
      · rw [if_neg m, if_neg (by simp [e, m]), List.set_comm _ _ e]
        rfl
theorem wipe_in {x : Option V} {i : Nat} {vs : List Nat} {σ : List (Option V)} (h : i ∈ vs) : wipe (σ.set i x) vs = wipe σ vs := by rw [wipe_put, if_pos h]
theorem wipe_wipe (σ : List (Option V)) : ∀ vs : List Nat, wipe (wipe σ vs) vs = wipe σ vs := fun vs => by
  have key : ∀ (us : List Nat) (τ : List (Option V)), (∀ u ∈ us, u ∈ vs) → wipe (wipe τ us) vs = wipe τ vs := by
    intro us
    induction us with
    | nil => intro τ _; rfl
    | cons u us ih =>
      intro τ h
      show wipe ((wipe τ us).set u none) vs = _
      rw [wipe_in (h u List.mem_cons_self), ih τ fun w hw => h w (List.mem_cons_of_mem _ hw)]
  exact key vs σ fun _ h => h
def wipeR (ρ : Rho) : List Nat → Rho
  | [] => ρ
  | v :: vs => (wipeR ρ vs).set v none
section
variable {K : PySem.W.Frag} {ρ ρ1 ρ2 : Rho} {I J L N : Asn} {ta tb tc te : TE} {d e : Dat} {t u : TT} {b c : Bool} {ts us : TS} {k : Out} {tr : TA} {q : Addr} {ds : List PyData} {x y : PyData} {vs : List Nat}
theorem env_wipe {G : Hp} {σ : List (Option V)} (h : EnvD K G σ ρ) : ∀ vs : List Nat, EnvD K G (wipe σ vs) (wipeR ρ vs)
  | [] => h
  | v :: vs => env_none (env_wipe h vs)
def GW (K : PySem.W.Frag) (g : TG) (vs : List Nat) (x : PyData) (ρ ρ' : Rho) : Prop := ∀ G H σ v (Q : L2.St → Hp → Prop), Same G H → EnvD K G σ ρ → Dp K G v x → (∀ σ', EnvD K G σ' ρ' → wipe σ' vs = wipe σ vs → Q σ' H) → g v σ H Q
def GWs (K : PySem.W.Frag) (g : TGs) (vs : List Nat) (xs : List PyData) (ρ ρ' : Rho) : Prop := ∀ G H σ us (Q : L2.St → Hp → Prop), Same G H → EnvD K G σ ρ → DpAll K G us xs → (∀ σ', EnvD K G σ' ρ' → wipe σ' vs = wipe σ vs → Q σ' H) → g us σ H Q
theorem w_name {i : Nat} (h : i ∈ vs) : GW K (gName i) vs x ρ (ρ.set i (some (.d x))) := fun G H σ v Q gh en dv q => q _ (env_set (d := .d x) dv en) (wipe_in h)
theorem w_tup {g : TGs} {n : Nat} (hn : ds.length = n) (h : GWs K g vs ds ρ ρ1) : GW K (gTup K n g) vs (.tuple ds) ρ ρ1 := fun G H σ v Q gh en dv q => by
  cases dv with
  | tup s r => exact ⟨_, _, rfl, same_t gh s, by rw [dpa_len r, hn], h G H σ _ Q gh en r q⟩
theorem w_nil : GWs K gNil vs [] ρ ρ := fun G H σ us Q gh en dv q => by
  cases dv
  exact ⟨rfl, q σ en rfl⟩
theorem w_cons {g : TG} {gs : TGs} (h : GW K g vs x ρ ρ1) (hs : GWs K gs vs ds ρ1 ρ2) : GWs K (gCons g gs) vs (x :: ds) ρ ρ2 := fun G H σ us Q gh en dv q => by
  cases dv with
  | cons a b => exact ⟨_, _, rfl, h G H σ _ _ gh en a fun σ' en' w => hs G H σ' _ Q gh en' b fun σ2 en2 w2 => q σ2 en2 (w2.trans w)⟩
/-! ### all(..), any(..) of a generator expression -/
/-- over items (passes the tests, the element): all, any -/
def genB (pol : Bool) (ks : List (Bool × Bool)) : Bool := if pol = true then ks.all fun p => !p.1 || p.2 else ks.any fun p => p.1 && p.2
theorem gen_end {pol : Bool} {ks : List (Bool × Bool)} (h : ∀ p ∈ ks, p.1 = true → p.2 = pol) : genB pol ks = pol := by
  unfold genB
  cases pol with
  | true =>
    rw [if_pos rfl, List.all_eq_true]
    intro p hp
    cases e : p.1 with
    | false => rfl
    | true => rw [h p hp e]; rfl
  | false =>
    rw [if_neg Bool.false_ne_true, Bool.eq_false_iff]
    intro z
    rw [List.any_eq_true] at z
    obtain ⟨p, hp, z⟩ := z
    rw [Bool.and_eq_true] at z
    have := h p hp z.1
    rw [z.2] at this
    cases this
theorem gen_out {pol : Bool} {ks : List (Bool × Bool)} {p : Bool × Bool} (hp : p ∈ ks) (h1 : p.1 = true) (h2 : p.2 ≠ pol) : genB pol ks = !pol := by
  unfold genB
  cases pol with
  | true =>
    rw [if_pos rfl]
    show _ = false
    rw [Bool.eq_false_iff]
    intro z
    rw [List.all_eq_true] at z
    have := z p hp
    rw [h1] at this
    exact h2 (by simpa using this)
  | false =>
    rw [if_neg Bool.false_ne_true]
    show _ = true
    rw [List.any_eq_true]
    refine ⟨p, hp, ?_⟩
    rw [h1]
    cases e : p.2 with
    | true => rfl
    | false => exact (h2 e).elim
section
variable {g : TG} {tt : TT} {pol : Bool} {P : Addr} {ks : List (Bool × Bool)}
/-- one place of the walk -/
theorem word_of {J' : It} {n : Nat} {τ : L2.St} {Dn Et : Hp → Prop} {G1 : Hp} {xs : List V} (hks : ks.length = n) (hds : ds.length = n) (r : DpAll K G1 xs ds) (en : EnvD K G1 τ (wipeR ρ vs)) (hτ : wipe τ vs = τ)
    (hgo : ∀ i G' H, i < n → Same G1 G' → Same G' H → J'.go i H) (hst : ∀ G' H, Same G1 G' → Same G' H → J'.stop n H) (hy : ∀ i G' H x H', Same G1 G' → Same G' H → J'.yld i H x H' → H' = H ∧ xs[i]? = some x)
    (he : ∀ (i : Nat) (x : PyData) (p : Bool × Bool), ds[i]? = some x → ks[i]? = some p → ∃ ρ', GW K g vs x (wipeR ρ vs) ρ' ∧ T K tt ρ' I p.1 I ∧ (p.1 = true → E K te ρ' I (.b p.2) I))
    (hDn : ∀ G' H, Same G1 G' → Same G' H → I.ok G' H → genB pol ks = pol → Dn H) (hEt : ∀ G' H, Same G1 G' → Same G' H → I.ok G' H → genB pol ks = !pol → Et H) :
    Word J' g tt te vs τ pol Dn Et fun i m H => m = n - i ∧ i ≤ n ∧ (∃ G', Same G1 G' ∧ Same G' H ∧ I.ok G' H) ∧ ∀ p ∈ ks.take i, p.1 = true → p.2 = pol := by
  refine ⟨fun i m H ⟨hm, hi, ⟨G', a1, a2, a3⟩, hp⟩ => ?_⟩
  by_cases c : i < n
  · refine .inr ⟨hgo i G' H c a1 a2, fun H' => (∃ G2, Same G1 G2 ∧ Same G2 H' ∧ I.ok G2 H') ∧ ∀ p ∈ ks.take (i + 1), p.1 = true → p.2 = pol, fun H' z => ⟨n - (i + 1), by omega, rfl, c, z⟩, fun x H' y => ?_⟩
    obtain ⟨rfl, hx⟩ := hy i G' H x H' a1 a2 y
    have hkk : ks[i]? = some ks[i] := List.getElem?_eq_getElem (by omega)
    have hdd : ds[i]? = some ds[i] := List.getElem?_eq_getElem (by omega)
    obtain ⟨v, h1, h2⟩ := dpa_get r hdd
    rw [hx] at h1
    obtain rfl := Option.some.inj h1
    obtain ⟨ρ', hg, ht, hel⟩ := he i _ _ hdd hkk
    refine hg G' H' τ x _ a2 (env_mono a1 en) (dp_mono a1 _ _ h2) fun σ' en' hw => ⟨hw.trans hτ, ?_⟩
    refine ht G' H' σ' a2 en' a3 _ fun G2 H2 g2 gh2 j2 => ?_
    have tk : ks.take (i + 1) = ks.take i ++ [ks[i]] := by rw [List.take_add_one, hkk]; rfl
    cases e1 : ks[i].1 with
    | false =>
      rw [if_neg Bool.false_ne_true]
      refine ⟨⟨G2, a1.trans g2, gh2, j2⟩, fun p hp' hp1 => ?_⟩
      rw [tk] at hp'
      rcases List.mem_append.mp hp' with z | z
      · exact hp p z hp1
      · rw [List.mem_singleton.mp z, e1] at hp1
        cases hp1
    | true =>
      rw [if_pos rfl]
      refine hel e1 G2 H2 σ' gh2 (env_mono g2 en') j2 _ fun v G3 H3 g3 gh3 j3 dv => ⟨ks[i].2, dv_bl dv, ?_⟩
      have g13 := (a1.trans g2).trans g3
      by_cases e2 : ks[i].2 = pol
      · rw [if_pos e2]
        refine ⟨⟨G3, g13, gh3, j3⟩, fun p hp' hp1 => ?_⟩
        rw [tk] at hp'
        rcases List.mem_append.mp hp' with z | z
        · exact hp p z hp1
        · rw [List.mem_singleton.mp z]
          exact e2
      · rw [if_neg e2]
        exact hEt G3 H3 g13 gh3 j3 (gen_out (List.getElem_mem (by omega)) e1 e2)
  · have e : i = n := by omega
    subst e
    refine .inl ⟨hst G' H a1 a2, hDn G' H a1 a2 a3 (gen_end ?_)⟩
    rw [List.take_of_length_le (by omega)] at hp
    exact hp
/-- the table has grown -/
theorem tab_step {G H H2 : Hp} {T : Tbs} (hP : P ∈ T.gs) (tb : TabsIn T G H) (gh : Same G H) (z : GxR.Tabbed P H H2) : Stp NoA G H G H2 := by
  obtain ⟨⟨qs, hq, tq⟩, ho⟩ := z
  obtain ⟨ps, hp, tp⟩ := tb.1 P hP
  obtain ⟨rs, hr, _⟩ := gh P _ hp
  have st := Stp.tab (qs := qs) gh (by rw [hp]; exact fun z => by cases z) hr fun _ => tq
  have e : upd H P (.tbl qs) = H2 := by
    funext b
    by_cases h : b = P
    · rw [h, upd_same, hq]
    · rw [upd_ne h, ho b h]
  rw [e] at st
  exact st
theorem tabG_of {G H : Hp} {T : Tbs} (hP : P ∈ T.gs) (tb : TabsIn T G H) (gh : Same G H) : GxR.TabG H P := by
  obtain ⟨ps, hp, tp⟩ := tb.1 P hP
  obtain ⟨rs, hr, t⟩ := gh P _ hp
  exact ⟨rs, hr, t tp⟩
theorem e_genT {tl : TE} {T' : Tbs} [hT : HasT T' I] (hP : P ∈ T'.gs) (hl : E K tl ρ I (.t ds) I) (hks : ks.length = ds.length)
    (he : ∀ (i : Nat) (x : PyData) (p : Bool × Bool), ds[i]? = some x → ks[i]? = some p → ∃ ρ', GW K g vs x (wipeR ρ vs) ρ' ∧ T K tt ρ' I p.1 I ∧ (p.1 = true → E K te ρ' I (.b p.2) I)) :
    E K (tGen pol P (iTup K tl) g tt te vs) ρ I (.b (genB pol ks)) I := fun G H σ gh en io Q q => hl G H σ gh en io _ fun v G1 H1 g1 gh1 j1 dv => by
  cases dv with
  | tup s r =>
    rename_i a xs
    refine ⟨a, rfl, ⟨_, same_t gh1 s⟩, tabG_of hP (hT.get _ _ j1) gh1, fun H2 z => ?_⟩
    have st := tab_step hP (hT.get _ _ j1) gh1 z
    refine ⟨_, ⟨ds.length, rfl, Nat.zero_le _, ⟨G1, Same.refl _, st.gh, Asn.pure_st st j1⟩, fun p hp => by simp at hp⟩, word_of hks rfl r (env_wipe (env_mono g1 en) vs) (wipe_wipe σ vs) (fun i G' H' hi b1 b2 => ?_) (fun G' H' b1 b2 => ⟨xs, same_t (b1.trans b2) s, Nat.le_of_eq (dpa_len r)⟩) (fun i G' H' x H'' b1 b2 y => ⟨y.1, y.2 xs (same_t (b1.trans b2) s)⟩) he (fun G' H' b1 b2 b3 e => ?_) (fun G' H' b1 b2 b3 e => ?_)⟩
    · have hx : i < xs.length := by rw [dpa_len r]; exact hi
      exact ⟨xs, xs[i], same_t (b1.trans b2) s, List.getElem?_eq_getElem hx⟩
    · exact q _ G' H' (g1.trans b1) b2 b3 (by rw [e]; exact .bl pol)
    · exact q _ G' H' (g1.trans b1) b2 b3 (by rw [e]; exact .bl (!pol))
theorem t_yes : T K tYes ρ I true I := fun G H σ gh en io Q q => q G H (Same.refl _) gh io
end
end
/-! ### defs with a table -/
structure FunC (K : PySem.W.Frag) (x qual : Str) (st : Stmt) (f : Addr) (fd : FuncData) (c : Addr) : Prop where
  ex : ∃ (oc : Value) (od : Option Addr) (kV doc pm : Value) (an : Option Addr) (ct : Value) (osl : Array (Option Value)),
    fd = PySem.W.fnOf x qual (defArgs st) (defBody st) (defScope st) .none kV doc pm an (.ref c) ct ∧ K.lookup f = some ⟨oc, od, .func fd, osl⟩ ∧ PySem.W.codeIn K (.ref c) qual = true
  kp : PySem.W.keepIn K (.ref f) = true
section
variable {P : Program} {w : World} {K : PySem.W.Frag} {mg : Str → Option Value} {base : Heap}
theorem FunC.of {x qual : Str} {st : Stmt} {f c : Addr} {fd : FuncData} (F : FunC K x qual st f fd c) : Fun K x qual st f fd := by
  obtain ⟨oc, od, kV, doc, pm, an, ct, osl, e, l, k⟩ := F.ex
  exact ⟨⟨oc, od, kV, doc, pm, an, _, ct, osl, e, l, k⟩, F.kp⟩
theorem FunC.okC {CX : CXT} {x qual : Str} {st : Stmt} {f c : Addr} {fd : FuncData} {N ps : List Str} {k : Nat} {sp : Sp} (F : FunC K x qual st f fd c) (S : FnScope N ps (defScope st)) (len : ∀ vs H Q E, sp vs H Q E → vs.length = ps.length)
    (hbody : ∀ (A : Around) (outer : List Env) (s : Shared) (H : Hp) (vs : List V) (Q : VK) (E : XK), Room k (A.deeper (envOfC qual (defScope st) s.heap.objs.size f (.ref c))) → sp vs H Q E →
      ∃ t, PSs (cxOf CX P w K mg base N qual (defScope st) f (.ref c) A outer s H E) (defBody st) t ∧ t { nx := fun _ H' => Q .non H', rt := Q } (L2.start N vs) H) : FnOk P w K mg base CX (k + 1) f fd ps sp := by
  obtain ⟨oc, od, kV, doc, pm, an, ct, osl, rfl, lk, hcd⟩ := F.ex
  exact fn_of lk hcd S len fun A outer s H vs Q E hr hsp => hbody A outer s H vs Q E hr hsp
theorem FunC.ok {x qual : Str} {st : Stmt} {f c : Addr} {fd : FuncData} {N ps : List Str} {k : Nat} {sp : Sp} (F : FunC K x qual st f fd c) (S : FnScope N ps (defScope st)) (len : ∀ vs H Q E, sp vs H Q E → vs.length = ps.length)
    (hbody : ∀ (A : Around) (outer : List Env) (s : Shared) (H : Hp) (vs : List V) (Q : VK) (E : XK), Room k (A.deeper (envOfC qual (defScope st) s.heap.objs.size f (.ref c))) → sp vs H Q E →
      ∃ t, PSs (cxOf CX0 P w K mg base N qual (defScope st) f (.ref c) A outer s H E).nox (defBody st) t ∧ t { nx := fun _ H' => Q .non H', rt := Q } (L2.start N vs) H) : FnOk P w K mg base CX0 (k + 1) f fd ps sp :=
  F.okC S len fun A outer s H vs Q E hr hsp => by
    obtain ⟨t, h, q⟩ := hbody A outer s H vs Q E hr hsp
    exact ⟨t, h.nox, q⟩
theorem funC_mk {x qual : Str} {st : Stmt} {f c : Addr} {oc : Value} {od an : Option Addr} {osl : Array (Option Value)} {kV doc pm cdv ct : Value} (l : K.lookup f = some ⟨oc, od, .func (PySem.W.fnOf x qual (defArgs st) (defBody st) (defScope st) .none kV doc pm an cdv ct), osl⟩)
    (e : cdv = .ref c) (k1 : PySem.W.codeIn K cdv qual = true) (k : PySem.W.keepIn K (.ref f) = true) : FunC K x qual st f (PySem.W.fnOf x qual (defArgs st) (defBody st) (defScope st) .none kV doc pm an cdv ct) c := by
  subst e
  exact ⟨⟨oc, od, kV, doc, pm, an, ct, osl, rfl, l, k1⟩, k⟩
/-- the code object of a def of the top -/
theorem code_eq {x : Str} {f c P' : Addr} {oc : Value} {od : Option Addr} {fd : FuncData} {osl : Array (Option Value)} (hn : PySem.W.nsIn K mainGlobals x = some (some (.ref f))) (l : K.lookup f = some ⟨oc, od, .func fd, osl⟩) (t : PySem.W.tabIn K x = some (c, P')) : fd.code = .ref c := by
  unfold PySem.W.tabIn at t
  rw [hn] at t
  simp only [l] at t
  split at t
  · rename_i c2 hc
    split at t
    · split at t
      · cases t
        exact hc
      · cases t
    · cases t
  · cases t
end
theorem tab_in {K : PySem.W.Frag} {x : Str} {f c P : Addr} {oc : Value} {od : Option Addr} {fd : FuncData} {osl : Array (Option Value)} {uc : Value} {ud : Option Addr} {uv : Array Value} {us : Array (Option Value)} (hn : PySem.W.nsIn K mainGlobals x = some (some (.ref f))) (l : K.lookup f = some ⟨oc, od, .func fd, osl⟩) (hc : fd.code = .ref c)
    (u : K.lookup c = some ⟨uc, ud, .fields uv, us⟩) (hv : (uv[11]? : Option Value) = some (.ref P)) : PySem.W.tabIn K x = some (c, P) := by
  unfold PySem.W.tabIn
  rw [hn]
  simp only [l, hc, u, hv]
end PL
set_option maxHeartbeats 1000000
/-! list(zip(x, y)) of two pairs -/
namespace PL
open PySem PySem.Spec PyProof.Rows L2 FR
end PL
/-! defs called within an except suite, with the caught error; try statements of any body -/
namespace PX
open PySem PySem.Spec PyProof.Rows L2 L2H
/-! ### isinstance of the caught error -/
/-! ### the call -/
/-! ### try statements: what is told of the body by the wish -/
end PX
namespace PL
open PySem PySem.Spec PyProof.Rows L2 FR GX PX
variable [Nm]
section
variable {K : PySem.W.Frag} {ρ ρ1 : Rho} {I J L N : Asn} {ta tb te : TE} {d e : Dat} {t u : TT} {b c : Bool} {ts us : TS} {k : Out} {tr : TA} {ds : List Dat} {tabs : Tbs}
/-! ### try statements of any body -/
def Asn.frm (G0 : Hp) : Asn := ⟨NoA, fun G _ => Same G0 G, fun _ _ _ _ _ _ s h => h.trans s.gg, fun _ _ _ _ z => z.elim⟩
abbrev Out.nil : Out := .fin fun _ _ _ => False
instance hasT_and {T : Tbs} {G0 : Hp} [h : HasT T J] : HasT T (J.and (Asn.frm G0)) := ⟨fun G H z => h.get G H z.1⟩
/-! ### texts -/
theorem cxHK {CX : CXT} {P : Program} {w : World} {K : PySem.W.Frag} {mg : Str → Option Value} {base : Heap} {N : List Str} {q : Str} {sc : Scope} {f : Addr} {cd : Value} {A : Around} {o : List Env} {s : Shared} {H : Hp} {E : XK} {p : Addr × Obj} :
    (L2H.cxH CX P w K mg base N q sc f cd A o s H E p).K = K := rfl
end
end PL
/-! walks, loops with a state that is told by a wish, draws of which bounds are told, dicts, tuples -/
namespace PL
open PySem PySem.Spec PyProof.Rows L2 FR GX PX
variable [Nm]
section
variable {K : PySem.W.Frag} {ρ ρ1 : Rho} {I J L N : Asn} {ta tb tc te : TE} {d e : Dat} {t u : TT} {b c : Bool} {ts us : TS} {k : Out} {tr : TA} {ds : List PyData} {x y : PyData}
/-! ### walks -/
/-- J walks over n items, the i-th is xs i; each turn may lay new objects -/
structure Walk (K : PySem.W.Frag) (J : It) (n : Nat) (xs : Nat → PyData) (G1 : Hp) : Prop where
  go : ∀ i G H, i < n → Same G1 G → Same G H → J.go i H
  stop : ∀ G H, Same G1 G → Same G H → J.stop n H
  yld : ∀ i G H v H', i < n → Same G1 G → Same G H → J.yld i H v H' → ∃ G', Stp NoA G H G' H' ∧ Dp K G' v (xs i)
theorem walk_t {G : Hp} {a : Addr} {vs : List V} {xs : Nat → PyData} (s : SqT K G a vs) (r : DpAll K G vs ds) (hx : ∀ i, i < ds.length → ds[i]? = some (xs i)) : Walk K (Itt K a) ds.length xs G := by
  have lx := dpa_len r
  refine ⟨fun i G2 H hi a1 a2 => ⟨vs, vs[i]'(by omega), same_t (a1.trans a2) s, List.getElem?_eq_getElem (by omega)⟩, fun G2 H a1 a2 => ⟨vs, same_t (a1.trans a2) s, by omega⟩, fun i G2 H v H' hi a1 a2 y => ?_⟩
  obtain ⟨rfl, y2⟩ := y
  obtain ⟨w, h1, h2⟩ := dpa_get r (hx i hi)
  obtain rfl : v = w := Option.some.inj ((y2 vs (same_t (a1.trans a2) s)).symm.trans h1)
  exact ⟨G2, Stp.refl a2, dp_mono a1 _ _ h2⟩
theorem walk_l {G : Hp} {a : Addr} {vs : List V} {xs : Nat → PyData} (s : SqL K G a vs) (r : DpAll K G vs ds) (hx : ∀ i, i < ds.length → ds[i]? = some (xs i)) : Walk K (Itl K a) ds.length xs G := by
  have lx := dpa_len r
  refine ⟨fun i G2 H hi a1 a2 => ⟨vs, vs[i]'(by omega), (a1.trans a2).seq s, List.getElem?_eq_getElem (by omega)⟩, fun G2 H a1 a2 => ⟨vs, (a1.trans a2).seq s, by omega⟩, fun i G2 H v H' hi a1 a2 y => ?_⟩
  obtain ⟨rfl, y2⟩ := y
  obtain ⟨w, h1, h2⟩ := dpa_get r (hx i hi)
  obtain rfl : v = w := Option.some.inj ((y2 vs ((a1.trans a2).seq s)).symm.trans h1)
  exact ⟨G2, Stp.refl a2, dp_mono a1 _ _ h2⟩
theorem walk_r {G : Hp} {lo : Int} {n : Nat} : Walk K (Itr lo n) n (fun i => .int (lo + (i : Nat))) G :=
  ⟨fun i _ _ hi _ _ => hi, fun _ _ _ _ => Nat.le_refl _, fun i G2 H v H' hi a1 a2 y => by
    obtain ⟨rfl, rfl⟩ := y
    exact ⟨G2, Stp.refl a2, .int _⟩⟩
/-- how an iterable is walked -/
def IW (K : PySem.W.Frag) (wi : TI) (ρ : Rho) (I : Asn) (n : Nat) (xs : Nat → PyData) (J : Asn) : Prop :=
  ∀ G H σ, Same G H → EnvD K G σ ρ → I.ok G H → ∀ R : It → Hp → Prop, (∀ Ji G2 H2, Same G G2 → Same G2 H2 → J.ok G2 H2 → Walk K Ji n xs G2 → R Ji H2) → wi σ H R
abbrev at0 (ds : List PyData) (i : Nat) : PyData := ds.getD i .none
theorem at0_get {i : Nat} (hi : i < ds.length) : ds[i]? = some (at0 ds i) := by
  unfold at0
  rw [List.getD_eq_getElem?_getD, List.getElem?_eq_getElem hi]
  rfl
theorem iw_t {tl : TE} (h : E K tl ρ I (.t ds) J) : IW K (iTup K tl) ρ I ds.length (at0 ds) J := fun G H σ gh en io R r => h G H σ gh en io _ fun v G1 H1 g1 gh1 j1 dv => by
  cases dv with
  | tup s r1 => exact ⟨_, rfl, ⟨_, same_t gh1 s⟩, r _ G1 H1 g1 gh1 j1 (walk_t s r1 fun i hi => at0_get hi)⟩
theorem iw_l {tl : TE} (h : E K tl ρ I (.d (.list ds)) J) : IW K (iList K tl) ρ I ds.length (at0 ds) J := fun G H σ gh en io R r => h G H σ gh en io _ fun v G1 H1 g1 gh1 j1 dv => by
  cases dv with
  | lst s r1 => exact ⟨_, rfl, ⟨_, gh1.seq s⟩, r _ G1 H1 g1 gh1 j1 (walk_l s r1 fun i hi => at0_get hi)⟩
/-! ### outcomes -/
/-- what binds a return alone -/
def Out.ret (k : Out) : Prop := (∃ d J, k = .rt d J) ∨ ∃ P, k = .fin P
theorem ret_fin {P : V → Hp → Hp → Prop} : Out.ret (.fin P) := .inr ⟨_, rfl⟩
theorem Out.ret.other {k : Out} (h : k.ret) {D D' : Ends} {G : Hp} (e : D'.rt = D.rt) (f : Fin K D G k) : Fin K D' G k := by
  rcases h with ⟨d, J, rfl⟩ | ⟨P, rfl⟩
  · intro v G2 H2 a b c dv
    rw [e]
    exact f v G2 H2 a b c dv
  · intro v G2 H2 a b c
    rw [e]
    exact f v G2 H2 a b c
/-- nothing comes behind -/
theorem s_stopR (hk : k.ret) (h : S K ts ρ I k) : S K (tSeq ts us) ρ I k := fun G H σ D gh en io f => h G H σ _ gh en io (hk.other (D := D) rfl f)
theorem s_ofRt {P : V → Hp → Hp → Prop} (h : S K ts ρ I (.rt d J)) (hp : ∀ v G H, Same G H → J.ok G H → Dv K G v d → P v G H) : S K ts ρ I (.fin P) := fun G H σ D gh en io f => h G H σ D gh en io fun v G2 H2 a b c dv => f v G2 H2 a b (hp v G2 H2 b c dv)
/-! ### loops: a state that keeps a wish -/
/-! ### comprehensions over any walk -/
theorem e_lcW {wi : TI} {g : TG} {vs : List Nat} {n : Nat} {xs : Nat → PyData} {es : List PyData} (hl : IW K wi ρ I n xs I) (hn : es.length = n) (hz : n ≤ 100000)
    (he : ∀ i y, i < n → es[i]? = some y → ∃ ρ', GW K g vs (xs i) (wipeR ρ vs) ρ' ∧ ∀ I', E K te ρ' I' (.d y) I') : E K (tLc wi g tYes te vs) ρ I (.d (.list es)) I := fun G H σ gh en io Q q =>
  hl G H σ gh en io _ fun Ji G1 H1 g1 gh1 j1 wk D hD => by
    have gD : G1 D = none := gh1.free hD
    have nD : ∀ a, I.foot a → ¬ a = D := fun a fa z => by
      obtain ⟨o, ho⟩ := I.own G1 H1 a j1 fa
      rw [z, hD] at ho
      cases ho
    have st0 := Stp.newM (o := HO.lst []) gh1 hD
    refine ⟨fun i m H' => m = n - i ∧ i ≤ n ∧ ∃ G', Same G1 G' ∧ Same G' H' ∧ I.ok G' H' ∧ (lA K D (es.take i)).ok G' H' ∧ Stp (· = D) G1 (upd H1 D (.lst [])) G' H', ⟨n, rfl, Nat.zero_le _, G1, Same.refl _, st0.gh, Asn.pure_st st0 j1, ⟨gD, [], upd_same, .nil⟩, Stp.refl st0.gh⟩, fun i m H' hw => ?_⟩
    obtain ⟨rfl, hi, G', a1, a2, a3, a4, a5⟩ := hw
    by_cases c : i < n
    · have hi3 : i < es.length := by omega
      obtain ⟨ρ', hg, hel⟩ := he i _ c (List.getElem?_eq_getElem hi3)
      refine .inr ⟨wk.go i G' H' c a1 a2, fun H2 => ∃ G2, Same G1 G2 ∧ Same G2 H2 ∧ I.ok G2 H2 ∧ (lA K D (es.take (i + 1))).ok G2 H2 ∧ Stp (· = D) G1 (upd H1 D (.lst [])) G2 H2, fun H2 z => ⟨n - (i + 1), by omega, rfl, c, z⟩, fun v H2 y => ?_⟩
      obtain ⟨G2, st, dp⟩ := wk.yld i G' H' v H2 c a1 a2 y
      refine hg G2 H2 _ v _ st.gh (env_wipe (env_mono ((g1.trans a1).trans st.gg) en) vs) dp fun σ' en' hw => ⟨hw.trans (wipe_wipe σ vs), ?_⟩
      refine hel (((lA K D (es.take i)).and I).and (Asn.since (· = D) G1 (upd H1 D (.lst [])))) G2 H2 _ st.gh en' ⟨⟨Asn.pure_st st a4, Asn.pure_st st a3⟩, a5.trans (st.wide fun _ z => z.elim)⟩ _ fun y G3 H3 g3 gh3 j3 dy => ?_
      obtain ⟨⟨⟨gq, ws, hq, r2⟩, i3⟩, st3⟩ := j3
      have st4 := Stp.store (o := HO.lst (ws ++ [y])) gh3 gq hq
      refine ⟨ws, hq, ?_, G3, (a1.trans st.gg).trans g3, st4.gh, I.st _ _ _ _ _ nD st4 i3, ⟨gq, _, upd_same, ?_⟩, st3.trans st4⟩
      · rw [dpa_len r2, List.length_take]
        exact Nat.lt_of_le_of_lt (Nat.min_le_left _ _) (Nat.lt_of_le_of_lt (show i ≤ 100000 by omega) (by decide))
      · rw [List.take_add_one, List.getElem?_eq_getElem hi3]
        exact dpa_app r2 (.cons dy .nil)
    · have ei : i = n := by omega
      subst ei
      obtain ⟨gq, ws, hq, r2⟩ := a4
      have st : Stp (· = D) G' H' (upd G' D (.lst ws)) H' := Stp.frz a2 gq hq
      refine .inl ⟨wk.stop G' H' a1 a2, q _ (upd G' D (.lst ws)) H' ((g1.trans a1).trans st.gg) st.gh (I.st _ _ _ _ _ nD st a3) (.lst (.inl (.inl upd_same)) (dp_monos st.gg _ ws ?_))⟩
      rw [show es = es.take i by rw [List.take_of_length_le (by omega)]]
      exact r2
/-! ### reading a list that may change, as if it never did -/
mutual
def flatD : PyData → Bool
  | .none => true
  | .bool _ => true
  | .int _ => true
  | .str _ => true
  | .list _ => false
  | .tuple ds => flatDs ds
  | .dict _ => false
def flatDs : List PyData → Bool
  | [] => true
  | d :: ds => flatD d && flatDs ds
end
def gdel (G : Hp) (q : Addr) : Hp := fun b => if b = q then none else G b
theorem gdel_ne {G : Hp} {q b : Addr} (h : b ≠ q) : gdel G q b = G b := if_neg h
theorem gdel_eq {G : Hp} {q : Addr} : gdel G q q = none := if_pos rfl
theorem sqt_del {G : Hp} {q a : Addr} {vs xs : List V} (hq : G q = some (.lst vs)) (h : SqT K G a xs) : SqT K (gdel G q) a xs := by
  rcases h with (h | ⟨o, h⟩) | h
  · refine .inl (.inl ?_)
    have : a ≠ q := fun z => by rw [z, hq] at h; cases h
    show gdel G q a = _
    rw [gdel_ne this]; exact h
  · refine .inl (.inr ⟨o, ?_⟩)
    have : a ≠ q := fun z => by rw [z, hq] at h; cases h
    rw [gdel_ne this]; exact h
  · exact .inr h
mutual
theorem dp_del {G : Hp} {q : Addr} {vs : List V} (hq : G q = some (.lst vs)) : ∀ (d : PyData) (v : V), flatD d = true → Dp K G v d → Dp K (gdel G q) v d
  | .none, _, _, h => by cases h; exact .non
  | .bool b, _, _, h => by cases h; exact .bl b
  | .int i, _, _, h => by cases h; exact .int i
  | .str x, _, _, h => by cases h; exact .str x
  | .list ds, _, f, h => by cases f
  | .tuple ds, _, f, h => by
    cases h with
    | tup a b => exact .tup (sqt_del hq a) (dp_dels hq ds _ f b)
  | .dict _, _, _, h => by cases h
theorem dp_dels {G : Hp} {q : Addr} {vs : List V} (hq : G q = some (.lst vs)) : ∀ (ds : List PyData) (ws : List V), flatDs ds = true → DpAll K G ws ds → DpAll K (gdel G q) ws ds
  | [], _, _, h => by cases h; exact .nil
  | d :: ds, _, f, h => by
    have f' : (flatD d && flatDs ds) = true := f
    rw [Bool.and_eq_true] at f'
    cases h with
    | cons a b => exact .cons (dp_del hq d _ f'.1 a) (dp_dels hq ds _ f'.2 b)
end
theorem env_putK {G : Hp} {q : Addr} {z : Dat} (hx : Dv K G (.ref q) z) : ∀ {σ : List (Option V)} {ρ : Rho} {i : Nat}, EnvD K G σ ρ → ρ[i]? = some (some (.r q)) → EnvD K G σ (ρ.set i (some z))
  | [], [], _, _, e => by simp at e
  | s :: _, o :: _, 0, h, e => by
    have eo : o = some (.r q) := by simpa using e
    obtain ⟨h1, h2⟩ := h
    rw [eo] at h1
    obtain ⟨v, h3, h4⟩ := h1
    exact ⟨⟨v, h3, by rw [show v = V.ref q from h4]; exact hx⟩, h2⟩
  | _ :: σ, _ :: ρ, i + 1, h, e => ⟨h.1, env_putK hx (i := i) h.2 (by simpa using e)⟩
  | [], _ :: _, _, h, _ => h.elim
  | _ :: _, [], _, h, _ => h.elim
theorem e_borrow {i : Nat} {q : Addr} (hi : ρ[i]? = some (some (.r q))) (hx : flatD x = true) (h : ∀ I', E K te (ρ.set i (some (.d (.list ds)))) I' (.d x) I') : E K te ρ (lJ K q ds J) (.d x) (lJ K q ds J) := fun G H σ gh en io Q k => by
  obtain ⟨⟨gq, vs, hq, r⟩, jo⟩ := io
  have s0 := Stp.frz gh gq hq
  have en' : EnvD K (upd G q (.lst vs)) σ (ρ.set i (some (.d (.list ds)))) := env_putK (z := .d (.list ds)) (.lst (.inl (.inl upd_same)) (dp_monos s0.gg _ _ r)) (env_mono s0.gg en) hi
  refine h (Asn.since NoA (upd G q (.lst vs)) H) _ H σ s0.gh en' (Stp.refl s0.gh) _ fun v G2 H2 g2 gh2 j2 dv => ?_
  have j2 : Stp NoA (upd G q (.lst vs)) H G2 H2 := j2
  have gq2 : G2 q = some (.lst vs) := g2 q _ upd_same
  have st : Stp NoA G H (gdel G2 q) H2 := by
    refine ⟨fun b o e => ?_, fun b o e => ?_, j2.hh, fun a o _ e n => ?_, j2.ex, fun P t => ?_⟩
    rotate_left
    rotate_left
    rotate_left
    · have t2 := j2.lt P (s0.lt P t)
      refine t2.keep (fun g => ?_) fun b o e _ _ => e
      by_cases z : P = q
      · rw [z, gdel_eq]
      · rw [gdel_ne z]; exact g
    · have nb : b ≠ q := fun z => by rw [z, gq] at e; cases e
      rw [gdel_ne nb]
      exact (s0.gg b o e).trans fun u z => g2 b u z
    · have nb : b ≠ q := fun z => by rw [z, gdel_eq] at e; cases e
      rw [gdel_ne nb] at e
      exact gh2 b o e
    · by_cases z : a = q
      · rw [z, gdel_eq]
      · rw [gdel_ne z]
        exact j2.fr a o (fun z => z) e (by rw [upd_ne z]; exact n)
  exact k v _ H2 st.gg st.gh ⟨⟨gdel_eq, vs, j2.hh q _ (fun z => z) hq, dp_monos st.gg _ _ r⟩, Asn.pure_st st jo⟩ (dp_del gq2 x v hx dv)
/-- q[j], an item of a list that may change -/
theorem e_ixM {j : Nat} {q : Addr} (ha : E K ta ρ I (.r q) J) (hb : E K tb ρ J (.i (j : Nat)) N) (hN : ∀ G H, N.ok G H → (lA K q ds).ok G H) (h : ds[j]? = some x) : E K (tOp (rIxL K) ta tb) ρ I (.d x) N :=
  e_op ha hb fun G H v w gh lo dx dy Q k => by
    obtain rfl : v = .ref q := dx
    obtain rfl := dv_int dy
    obtain ⟨gq, vs, hq, r⟩ := hN G H lo
    obtain ⟨u, h1, h2⟩ := dpa_get r h
    exact ⟨q, _, _, u, rfl, rfl, .inl (.inl hq), atI_nat h1, k u G H (Same.refl _) gh lo h2⟩
/-! ### draws of which only bounds are told -/
/-- of the arguments ds, the list as C and what X says, a def that draws hands back some d and leaves some C' with Po d C' -/
def spN (K : PySem.W.Frag) (R : List Dat → DS → Asn → (Dat → DS → Prop) → Prop) : Sp := fun vs H Q _ => ∃ G ds p C X Po, Same G H ∧ DvAll K G vs (.r p :: ds) ∧ (dA K p C).ok G H ∧ X.ok G H ∧ ¬ X.foot p ∧ R ds C X Po ∧
  ∀ d C', Po d C' → ∀ v G2 H2, Stp (· = p) G H G2 H2 → (dA K p C').ok G2 H2 → Dv K G2 v d → Q v H2
abbrev outN (K : PySem.W.Frag) (p : Addr) (J : Asn) (Po : Dat → DS → Prop) : Out := .fin fun v G H => ∃ d C', Po d C' ∧ (dJ K p C' J).ok G H ∧ Dv K G v d
theorem len_N {R : List Dat → DS → Asn → (Dat → DS → Prop) → Prop} {n : Nat} (hl : ∀ ds C X Po, R ds C X Po → ds.length + 1 = n) {vs : List V} {H : Hp} {Q : VK} {X : XK} (h : spN K R vs H Q X) : vs.length = n := by
  obtain ⟨G, ds, p, C, Z, Po, gh, dvs, k, _, _, r, q⟩ := h
  rw [dva_len dvs, List.length_cons, hl ds C Z Po r]
theorem body_N {R : List Dat → DS → Asn → (Dat → DS → Prop) → Prop} {nn : List Str} {vs : List V} {H : Hp} {Q : VK} {X : XK} (hb : ∀ ds C Z Po, R ds C Z Po → ∀ p J, ¬ J.foot p → ¬ Z.foot p → S K ts (some (.r p) :: (ds.map some ++ List.replicate (nn.length - (ds.length + 1)) none)) (dJ K p C (Z.and J)) (outN K p J Po)) (h : spN K R vs H Q X) :
    ts { nx := fun _ H' => Q .non H', rt := Q } (L2.start nn vs) H := by
  obtain ⟨G, ds, p, C, Z, Po, gh, dvs, k, z, zp, r, q⟩ := h
  refine hb ds C Z Po r p (Asn.since (· = p) G H) (fun z => z.1 rfl) zp G H _ _ gh ?_ ⟨k, z, Stp.refl gh⟩ fun v G2 H2 g2 gh2 ⟨d, C', po, j2, dv⟩ => q d C' po v G2 H2 j2.2 j2.1 dv
  unfold L2.start
  rw [dva_len dvs, List.length_cons]
  exact env_start (ds := .r p :: ds) _ dvs
theorem s_retN {p : Addr} {C' : DS} {Po : Dat → DS → Prop} (h : S K ts ρ I (.rt d (dJ K p C' J))) (po : Po d C') : S K ts ρ I (outN K p J Po) := s_ofRt h fun v G H gh j dv => ⟨d, C', po, j, dv⟩
theorem s_preN {p : Addr} {C : DS} {Z : Asn} (h : S K ts ρ (dJ K p C J) k) : S K ts ρ (dJ K p C (Z.and J)) k := s_pre (I' := dJ K p C J) (fun _ _ z => ⟨z.1, z.2.2⟩) h
/-- an expression of which only a wish is told -/
def EN (K : PySem.W.Frag) (te : TE) (ρ : Rho) (I : Asn) (P : Dat → Asn → Prop) : Prop := ∀ G H σ, Same G H → EnvD K G σ ρ → I.ok G H → ∀ Q : VK, (∀ d J, P d J → ∀ v G2 H2, Same G G2 → Same G2 H2 → J.ok G2 H2 → Dv K G2 v d → Q v H2) → te σ H Q
def AN (K : PySem.W.Frag) (ta : TA) (ρ : Rho) (I : Asn) (P : List Dat → Asn → Prop) : Prop := ∀ G H σ, Same G H → EnvD K G σ ρ → I.ok G H → ∀ Q : List V → Hp → Prop, (∀ ds J, P ds J → ∀ vs G2 H2, Same G G2 → Same G2 H2 → J.ok G2 H2 → DvAll K G2 vs ds → Q vs H2) → ta σ H Q
theorem en_of {P : Dat → Asn → Prop} (h : E K te ρ I d J) (hp : P d J) : EN K te ρ I P := fun G H σ gh en io Q q => h G H σ gh en io _ fun v G2 H2 g2 gh2 j2 dv => q d J hp v G2 H2 g2 gh2 j2 dv
theorem an_of {P : List Dat → Asn → Prop} {ds : List Dat} (h : A K tr ρ I ds J) (hp : P ds J) : AN K tr ρ I P := fun G H σ gh en io Q q => h G H σ gh en io _ fun v G2 H2 g2 gh2 j2 dv => q ds J hp v G2 H2 g2 gh2 j2 dv
theorem an_cons {P : Dat → Asn → Prop} {P2 : List Dat → Asn → Prop} (h : EN K te ρ I P) (h2 : ∀ d J, P d J → AN K tr ρ J fun ds L => P2 (d :: ds) L) : AN K (tCons te tr) ρ I P2 := fun G H σ gh en io Q q => h G H σ gh en io _ fun d J p v G1 H1 g1 gh1 j1 dv =>
  h2 d J p G1 H1 σ gh1 (env_mono g1 en) j1 _ fun ds L p2 vs G2 H2 g2 gh2 j2 dvs => q (d :: ds) L p2 (v :: vs) G2 H2 (g1.trans g2) gh2 j2 ⟨dv_mono g2 dv, dvs⟩
theorem en_draw {R : List Dat → DS → Asn → (Dat → DS → Prop) → Prop} {X : XK} {p : Addr} {C : DS} {Z : Asn} {ds : List Dat} {Po : Dat → DS → Prop} {P : Dat → Asn → Prop} (hr : A K tr ρ I (.r p :: ds) (dJ K p C J)) (h : R ds C Z Po) (hf : ¬ J.foot p) (hZ : ∀ G H, J.ok G H → Z.ok G H) (zp : ¬ Z.foot p) (hp : ∀ d C', Po d C' → P d (dJ K p C' J)) : EN K (tCall (spN K R) [] X tr) ρ I P := fun G H σ gh en io Q q => hr G H σ gh en io _ fun vs G1 H1 g1 gh1 j1 dvs => by
  rw [List.append_nil]
  exact ⟨G1, ds, p, C, Z, Po, gh1, dvs, j1.1, hZ _ _ j1.2, zp, h, fun d C' po v G2 H2 s k dv => q d _ (hp d C' po) v G2 H2 (g1.trans s.gg) s.gh ⟨k, J.st _ _ _ _ _ (fun a fa (z : a = p) => hf (z ▸ fa)) s j1.2⟩ dv⟩
theorem s_asgN {i : Nat} {P : Dat → Asn → Prop} (h : EN K te ρ I P) (h2 : ∀ d J, P d J → S K us (ρ.set i (some d)) J k) : S K (tSeq (tAsg te (gName i)) us) ρ I k := fun G H σ D gh en io f => h G H σ gh en io _ fun d J p v G1 H1 g1 gh1 j1 dv => h2 d J p G1 H1 _ D gh1 (env_set dv (env_mono g1 en)) j1 (f.mono g1)
/-! ### dicts -/
def valD (kvs : List (Key × PyData)) (k : Key) : Option PyData := (kvs.find? fun kv => decide (kv.1 = k)).map (·.2)
theorem kv_get {G : Hp} {ky : Key} : ∀ {vs : List (Key × V)} {kvs : List (Key × PyData)}, KvAll K G vs kvs → (valD kvs ky = none → valV vs ky = none) ∧ ∀ z, valD kvs ky = some z → ∃ v, valV vs ky = some v ∧ Dp K G v z
  | [], [], _ => ⟨fun _ => rfl, fun z h => by cases h⟩
  | (k1, v1) :: vs, (k2, x2) :: kvs, h => by
    obtain ⟨h1, h2⟩ := h
    have e : k1 = k2 ∧ vs.map (·.1) = kvs.map (·.1) := by simpa using h1
    obtain ⟨rfl, e2⟩ := e
    cases h2 with
    | cons r rr =>
      have ih := kv_get (ky := ky) (vs := vs) (kvs := kvs) ⟨e2, rr⟩
      unfold valD valV at ih ⊢
      by_cases c : k1 = ky
      · rw [List.find?_cons_of_pos (by simpa using c), List.find?_cons_of_pos (by simpa using c)]
        refine ⟨fun z => (by cases z), fun z hz => ?_⟩
        obtain rfl : x2 = z := Option.some.inj hz
        exact ⟨v1, rfl, r⟩
      · rw [List.find?_cons_of_neg (by simpa using c), List.find?_cons_of_neg (by simpa using c)]
        exact ih
  | [], _ :: _, h => by have := h.1; simp at this
  | _ :: _, [], h => by have := h.1; simp at this
theorem kv_mono {G G' : Hp} {vs : List (Key × V)} {kvs : List (Key × PyData)} (e : Same G G') (h : KvAll K G vs kvs) : KvAll K G' vs kvs := ⟨h.1, dp_monos e _ _ h.2⟩
theorem kv_some {G : Hp} {ky : Key} {vs : List (Key × V)} {kvs : List (Key × PyData)} (h : KvAll K G vs kvs) : (valV vs ky).isSome = (valD kvs ky).isSome := by
  obtain ⟨h1, h2⟩ := kv_get (ky := ky) h
  cases e : valD kvs ky with
  | none => rw [h1 e]; rfl
  | some z =>
    obtain ⟨v, hv, _⟩ := h2 z e
    rw [hv]
    rfl
theorem e_kGet {kvs : List (Key × PyData)} {n : Int} (ha : E K ta ρ I (.k kvs) J) (hb : E K tb ρ J (.i n) L) (h : valD kvs (.inl n) = some x) : E K (tDGet ta tb) ρ I (.d x) L := fun G H σ gh en io Q q => ha G H σ gh en io _ fun v G1 H1 g1 gh1 j1 dv => hb G1 H1 σ gh1 (env_mono g1 en) j1 _ fun w G2 H2 g2 gh2 j2 dw => by
  obtain ⟨a, vs, rfl, ha, kv⟩ := dv
  obtain rfl := dv_int dw
  obtain ⟨u, hu, dp⟩ := (kv_get (ky := .inl n) kv).2 x h
  exact ⟨a, u, rfl, .inl ⟨vs, .inl n, .of ((g2.trans gh2) _ _ ha), rfl, hu.symm⟩, q u G2 H2 (g1.trans g2) gh2 j2 (dp_mono g2 _ _ dp)⟩
/-- a dict that may change -/
def kA (K : PySem.W.Frag) (q : Addr) (kvs : List (Key × PyData)) : Asn := ⟨(· = q), fun G H => G q = none ∧ ∃ vs, H q = some (.dK vs) ∧ KvAll K G vs kvs, fun M G H G2 H2 n s ⟨g, vs, h, r⟩ => ⟨s.fr q _ (n q rfl) h g, vs, s.hh q _ (n q rfl) h, kv_mono s.gg r⟩, fun G H a ⟨_, vs, h, _⟩ (z : a = q) => ⟨.dK vs, by rw [z]; exact h⟩⟩
abbrev kJ (K : PySem.W.Frag) (q : Addr) (kvs : List (Key × PyData)) (J : Asn) : Asn := (kA K q kvs).and J
theorem kv_new {G : Hp} {ky : Key} {z : V} {zd : PyData} {vs : List (Key × V)} {kvs : List (Key × PyData)} (h : KvAll K G vs kvs) (hz : Dp K G z zd) (hn : ky ∉ kvs.map (·.1)) : KvAll K G (putK vs ky z) (kvs ++ [(ky, zd)]) ∧ (putK vs ky z).length = vs.length + 1 := by
  have e : (vs.any fun kv => decide (kv.1 = ky)) = false := by
    rw [Bool.eq_false_iff]
    intro w
    rw [List.any_eq_true] at w
    obtain ⟨kv, hm, hk⟩ := w
    refine hn ?_
    rw [← h.1, ← of_decide_eq_true hk]
    exact List.mem_map.mpr ⟨kv, hm, rfl⟩
  unfold putK
  rw [e, if_neg Bool.false_ne_true]
  refine ⟨⟨?_, ?_⟩, by rw [List.length_append]; rfl⟩
  · rw [List.map_append, List.map_append, h.1]
    rfl
  · rw [List.map_append, List.map_append]
    exact dpa_app h.2 (.cons hz .nil)
theorem kv_len {G : Hp} {vs : List (Key × V)} {kvs : List (Key × PyData)} (h : KvAll K G vs kvs) : vs.length = kvs.length := by
  have := congrArg List.length h.1
  simpa using this
/-- x = {} -/
theorem s_newK {i : Nat} (h : ∀ q, ¬ I.foot q → S K us (ρ.set i (some (.r q))) (kJ K q [] I) k) : S K (tSeq (tAsg tDNewK (gName i)) us) ρ I k := fun G H σ D gh en io f => fun p hp => by
  have s := Stp.newM (o := HO.dK []) gh hp
  have gp : G p = none := gh.free hp
  refine h p (fun z => ?_) G _ _ D s.gh (env_set (d := .r p) rfl en) ⟨⟨gp, [], upd_same, rfl, .nil⟩, Asn.pure_st s io⟩ f
  obtain ⟨o, ho⟩ := I.own G H p io z
  rw [ho] at hp
  cases hp
/-- the dict at q changes no more -/
theorem s_freezeK {i : Nat} {q : Addr} {kvs : List (Key × PyData)} (hi : ρ[i]? = some (some (.r q))) (hf : ¬ J.foot q) (hs : S K ts (ρ.set i (some (.k kvs))) J k) : S K ts ρ (kJ K q kvs J) k := fun G H σ D gh en io f => by
  obtain ⟨⟨gq, vs, hq, r⟩, jo⟩ := io
  have st := Stp.frz gh gq hq
  exact hs _ H σ D st.gh (env_putK (z := .k kvs) ⟨q, vs, rfl, upd_same, kv_mono st.gg r⟩ (env_mono st.gg en) hi) (J.st _ _ _ _ _ (fun a fa (z : a = q) => hf (z ▸ fa)) st jo) (f.mono st.gg)
def kvsOf (ks : List Int) (es : List PyData) : List (Key × PyData) := (ks.zip es).map fun p => (.inl p.1, p.2)
theorem kvs_keys {ks : List Int} {es : List PyData} (h : ks.length = es.length) : (kvsOf ks es).map (·.1) = ks.map Sum.inl := by
  unfold kvsOf
  rw [List.map_map]
  show (ks.zip es).map (fun p => (Sum.inl p.1 : Key)) = _
  have e := List.map_fst_zip (l₁ := ks) (l₂ := es) (by omega)
  calc (ks.zip es).map (fun p => (Sum.inl p.1 : Key)) = ((ks.zip es).map Prod.fst).map Sum.inl := by rw [List.map_map]; rfl
    _ = ks.map Sum.inl := by rw [e]
theorem kvs_snoc {ks : List Int} {es : List PyData} {i : Nat} {n : Int} {y : PyData} (h1 : ks[i]? = some n) (h2 : es[i]? = some y) : kvsOf (ks.take (i + 1)) (es.take (i + 1)) = kvsOf (ks.take i) (es.take i) ++ [(.inl n, y)] := by
  unfold kvsOf
  have a1 : i < ks.length := (List.getElem?_eq_some_iff.mp h1).1
  have a2 : i < es.length := (List.getElem?_eq_some_iff.mp h2).1
  rw [List.take_add_one, List.take_add_one, h1, h2, show (some n).toList = [n] from rfl, show (some y).toList = [y] from rfl, List.zip_append (by rw [List.length_take, List.length_take]; omega), List.map_append]
  rfl
/-! ### tuples -/
/-! ### loops over the items of a list of one's own -/
theorem at0_map {β : Type} {f : β → PyData} {bs : List β} {i : Nat} {z : β} (h : bs[i]? = some z) : at0 (bs.map f) i = f z := by
  unfold at0
  rw [List.getD_eq_getElem?_getD, List.getElem?_map, h]
  rfl
theorem e_borrowD {i : Nat} {p q : Addr} {C : DS} (hi : ρ[i]? = some (some (.r q))) (hx : flatD x = true) (h : ∀ I', E K te (ρ.set i (some (.d (.list ds)))) I' (.d x) I') : E K te ρ (dJ K p C (lJ K q ds J)) (.d x) (dJ K p C (lJ K q ds J)) :=
  e_post (J := lJ K q ds (dJ K p C J)) (fun G H z => ⟨z.2.1, z.1, z.2.2⟩) (e_pre (I' := lJ K q ds (dJ K p C J)) (fun G H z => ⟨z.2.1, z.1, z.2.2⟩) (e_borrow hi hx h))
/-! ### loops whose next state is told by a wish alone -/
theorem s_ne {P : Rho → Asn → Prop} (h : S K ts ρ I (.nx ρ1 J)) (p : P ρ1 J) : S K ts ρ I (.ne P) := fun G H σ D gh en io f => h G H σ D gh en io fun G2 H2 σ2 a b c d => f ρ1 J p G2 H2 σ2 a b c d
theorem s_seqNE {P : Rho → Asn → Prop} (h : S K ts ρ I (.ne P)) (h2 : ∀ ρ1 J, P ρ1 J → S K us ρ1 J k) : S K (tSeq ts us) ρ I k := fun G H σ D gh en io f => h G H σ _ gh en io fun ρ1 J p G1 H1 σ1 g1 gh1 en1 j1 => h2 ρ1 J p G1 H1 σ1 D gh1 en1 j1 (f.mono g1)
theorem s_loopN {α : Type} {wi : TI} {g : TG} {n : Nat} {xs : Nat → PyData} (W : Nat → α → Prop) (P : α → Rho) (V : α → Asn) (a0 : α) (w0 : W 0 a0) (hl : IW K wi ρ I n xs (V a0)) (h0 : ρ = P a0)
    (step : ∀ i a, i < n → W i a → ∃ ρ', GJ K g (xs i) (P a) ρ' ∧ (S K ts ρ' (V a) (.ne fun r L => ∃ a', W (i + 1) a' ∧ r = P a' ∧ L = V a') ∨ (k.ret ∧ S K ts ρ' (V a) k)))
    (done : ∀ a, W n a → S K us (P a) (V a) k) : S K (tSeq (tFor wi g ts) us) ρ I k := fun G H σ D gh en io f => by
  show tFor wi g ts { D with nx := fun σ' H' => us D σ' H' } σ H
  refine hl G H σ gh en io _ fun Ji G1 H1 g1 gh1 j1 wk => ?_
  refine ⟨fun i m σ' H' => m = n - i ∧ i ≤ n ∧ ∃ a G', W i a ∧ Same G1 G' ∧ Same G' H' ∧ EnvD K G' σ' (P a) ∧ (V a).ok G' H', ⟨n, rfl, Nat.zero_le _, a0, G1, w0, Same.refl _, gh1, h0 ▸ env_mono g1 en, j1⟩, fun i m σ' H' hw => ?_⟩
  obtain ⟨rfl, hi, a, G', wa, a1, a2, a3, a4⟩ := hw
  by_cases c : i < n
  · obtain ⟨ρ', hg, hs⟩ := step i a c wa
    rcases hs with hs | ⟨hk, hs⟩
    · refine .inr ⟨wk.go i G' H' c a1 a2, fun σ2 H2 => ∃ a' G2, W (i + 1) a' ∧ Same G1 G2 ∧ Same G2 H2 ∧ EnvD K G2 σ2 (P a') ∧ (V a').ok G2 H2, fun σ2 H2 ⟨a', G2, wa', b1, b2, b3, b4⟩ => ⟨n - (i + 1), by omega, rfl, c, a', G2, wa', b1, b2, b3, b4⟩, fun v H2 y => ?_⟩
      obtain ⟨G2, st, dp⟩ := wk.yld i G' H' v H2 c a1 a2 y
      exact hg G2 H2 σ' v _ st.gh (env_mono st.gg a3) dp fun σ2 en2 => hs G2 H2 σ2 _ st.gh en2 (Asn.pure_st st a4) fun r L ⟨a', wa', e1, e2⟩ G3 H3 σ3 g3 gh3 en3 j3 => ⟨a', G3, wa', (a1.trans st.gg).trans g3, gh3, e1 ▸ en3, e2 ▸ j3⟩
    · refine .inr ⟨wk.go i G' H' c a1 a2, fun _ _ => False, fun _ _ z => z.elim, fun v H2 y => ?_⟩
      obtain ⟨G2, st, dp⟩ := wk.yld i G' H' v H2 c a1 a2 y
      exact hg G2 H2 σ' v _ st.gh (env_mono st.gg a3) dp fun σ2 en2 => hs G2 H2 σ2 _ st.gh en2 (Asn.pure_st st a4) (hk.other (D := D) rfl (((f.mono g1).mono a1).mono st.gg))
  · have e : i = n := by omega
    subst e
    exact .inl ⟨wk.stop G' H' a1 a2, done a wa G' H' σ' D a2 a3 a4 ((f.mono g1).mono a1)⟩
end
end PL
/-! walks over zip of two -/
namespace PL
open PySem PySem.Spec PyProof.Rows L2 FR GX PX RZ
variable [Nm]
section
variable {K : PySem.W.Frag} {ρ ρ1 : Rho} {I J L N : Asn} {tr : TA} {xs ys : List PyData}
theorem walk_zt {G : Hp} {a b : Addr} {vs ws : List V} (s1 : SqT K G a vs) (s2 : SqT K G b ws) (r1 : DpAll K G vs xs) (r2 : DpAll K G ws ys) (hl : xs.length = ys.length) : Walk K (ItzT K a b) xs.length (fun i => .tuple [at0 xs i, at0 ys i]) G := by
  have l1 := dpa_len r1
  have l2 := dpa_len r2
  refine ⟨fun i G2 H hi a1 a2 => ⟨vs, ws, vs[i]'(by omega), ws[i]'(by omega), same_t (a1.trans a2) s1, same_t (a1.trans a2) s2, List.getElem?_eq_getElem (by omega), List.getElem?_eq_getElem (by omega)⟩, fun G2 H a1 a2 => ⟨vs, ws, same_t (a1.trans a2) s1, same_t (a1.trans a2) s2, .inl (by omega)⟩, fun i G2 H v H' hi a1 a2 y => ?_⟩
  obtain ⟨q, x, y, rfl, nq, rfl, f1, f2⟩ := y
  obtain ⟨w1, h1, p1⟩ := dpa_get r1 (at0_get hi)
  obtain ⟨w2, h2, p2⟩ := dpa_get r2 (at0_get (show i < ys.length by omega))
  obtain rfl : x = w1 := Option.some.inj ((f1 vs (same_t (a1.trans a2) s1)).symm.trans h1)
  obtain rfl : y = w2 := Option.some.inj ((f2 ws (same_t (a1.trans a2) s2)).symm.trans h2)
  have st := Stp.new (o := .tup [x, y]) a2 nq
  have c1 := a1.trans st.gg
  exact ⟨_, st, .tup (.inl (.inl upd_same)) (.cons (dp_mono c1 _ _ p1) (.cons (dp_mono c1 _ _ p2) .nil))⟩
theorem iw_zt (h : A K tr ρ I [.t xs, .t ys] J) (hl : xs.length = ys.length) : IW K (iZipA K tr) ρ I xs.length (fun i => .tuple [at0 xs i, at0 ys i]) J := fun G H σ gh en io R r => h G H σ gh en io _ fun vs G1 H1 g1 gh1 j1 dvs => by
  match vs, dvs with
  | [v1, v2], ⟨d1, d2, _⟩ =>
    cases d1 with
    | tup s1 r1 =>
      cases d2 with
      | tup s2 r2 => exact ⟨_, _, _, _, rfl, .inr ⟨same_t gh1 s1, same_t gh1 s2, r _ G1 H1 g1 gh1 j1 (walk_zt s1 s2 r1 r2 hl)⟩⟩
theorem e_allL {bs : List Bool} (hr : A K tr ρ I [.d (.list (bs.map PyData.bool))] J) : E K (tCB (rAll K) tr) ρ I (.b (bs.all id)) J :=
  e_cb hr fun G H vs gh jo h Q q => by
    obtain ⟨v, rfl, h1⟩ := dva1 h
    cases h1 with
    | lst s r =>
      obtain rfl := dpa_bools bs _ r
      exact ⟨_, bs, rfl, gh.seq s, q _ G H (Same.refl _) gh jo (.bl _)⟩
end
end PL
set_option exponentiation.threshold 20000
/-! rules of the hand layer: lcm, tuple(list) as it stands, dict of a tuple of pairs, sorted of tuples of data -/
namespace L2
open PySem PySem.Spec PyProof.Rows
end L2
/-! ### sorted(xs), xs a list of tuples of data, told by a key of three ints -/
namespace SrtD
open PySem PySem.Spec PyProof.Rows SrtO Srt
/-- how two rows are told apart: by ints, or not at all -/
def lexL : List PyData → List PyData → Option Bool
  | [], [] => some false
  | x :: xs, y :: ys => if PyData.eqv x y = true then lexL xs ys else match x, y with
    | .int a, .int b => some (decide (a < b))
    | _, _ => none
  | _, _ => none
end SrtD
/-! ### rows: tuples that begin with three ints -/
namespace SrtD
open PySem PySem.Spec PyProof.Rows SrtO Srt
def Row3 (d : PyData) : Prop := ∃ (a b c : Int) (r : List PyData), d = .tuple (.int a :: .int b :: .int c :: r) ∧ ∀ x ∈ r, SeqAt.shaped x = true
theorem lexL_self : ∀ (r : List PyData), (∀ x ∈ r, SeqAt.shaped x = true) → lexL r r = some false
  | [], _ => rfl
  | x :: r, h => by
    unfold lexL
    rw [if_pos (SeqAt.eqv_refl x (SeqAt.canLay_of_shaped (h x List.mem_cons_self)))]
    exact lexL_self r fun y hy => h y (List.mem_cons_of_mem _ hy)
theorem eqv_ints {a b : Int} : (PyData.eqv (.int a) (.int b) = true) = (a = b) := by
  simp [PyData.eqv]
def IsRow (h : Heap) (v : Value) (d : PyData) : Prop := Row3 d ∧ ∃ as, Reads h v d as
theorem IsRow.keeps {h h' : Heap} {v : Value} {d : PyData} (p : IsRow h v d) (hk : ∀ b o, h.get? b = some o → h'.get? b = some o) : IsRow h' v d := ⟨p.1, p.2.imp fun _ r => PyProof.Rows.Reads.keeps hk r⟩
end SrtD
namespace L2
open PySem PySem.Spec PyProof.Rows SrtD
section
variable {X : Cx}
theorem dpa_at {K : PySem.W.Frag} {H : Hp} {f : Value → PyData} : ∀ {us : List Value}, DpAll K H (us.map backV) (us.map f) → ∀ u ∈ us, Dp K H (backV u) (f u)
  | [], _ => fun u hu => absurd hu (by simp)
  | v :: us, .cons a b => fun u hu => by
    rcases List.mem_cons.mp hu with rfl | hu
    · exact a
    · exact dpa_at b u hu
end
end L2
set_option exponentiation.threshold 20000
/-! data rules: lcm, plain tuples, dict of a plain tuple of pairs, sorted rows -/
namespace PL
open PySem PySem.Spec PyProof.Rows L2
variable [Nm]
section
variable {K : PySem.W.Frag} {ρ : Rho} {I J L : Asn} {te : TE} {tr : TA}
theorem hu3 {A : Around} {k : Nat} (hr : Room k A) : A.in1.in1.units + 64 < cLine := by
  have := hr.un
  show A.units + 1 + 1 + 64 < cLine
  omega
end
end PL
/-! comprehensions of two clauses, and of one with a test, over any walk -/
namespace PL
open PySem PySem.Spec PyProof.Rows L2
variable [Nm]
section
variable {K : PySem.W.Frag} {ρ : Rho} {I J L : Asn} {te : TE} {tr : TA}
/-- the kept items of a row, up to j -/
def rowK (b : Nat → Bool) (e : Nat → PyData) (j : Nat) : List PyData := ((List.range j).filter b).map e
theorem rowK_0 {b : Nat → Bool} {e : Nat → PyData} : rowK b e 0 = [] := rfl
theorem rowK_s {b : Nat → Bool} {e : Nat → PyData} {j : Nat} : rowK b e (j + 1) = rowK b e j ++ (if b j = true then [e j] else []) := by
  unfold rowK
  rw [List.range_succ, List.filter_append, List.map_append]
  congr 1
  by_cases h : b j = true
  · rw [if_pos h, List.filter_cons_of_pos h]
    rfl
  · rw [if_neg h, List.filter_cons_of_neg h]
    rfl
theorem rowK_len {b : Nat → Bool} {e : Nat → PyData} (j : Nat) : (rowK b e j).length ≤ j := by
  unfold rowK
  rw [List.length_map]
  exact Nat.le_trans (List.length_filter_le _ _) (by rw [List.length_range]; exact Nat.le_refl _)
def rowsK (m : Nat → Nat) (b : Nat → Nat → Bool) (e : Nat → Nat → PyData) (i : Nat) : List PyData := ((List.range i).map fun i => rowK (b i) (e i) (m i)).flatten
theorem rowsK_s {m : Nat → Nat} {b : Nat → Nat → Bool} {e : Nat → Nat → PyData} {i : Nat} : rowsK m b e (i + 1) = rowsK m b e i ++ rowK (b i) (e i) (m i) := by
  unfold rowsK
  rw [List.range_succ, List.map_append, List.flatten_append]
  simp
theorem rowsK_len {m : Nat → Nat} {b : Nat → Nat → Bool} {e : Nat → Nat → PyData} {n : Nat} (hm : ∀ i, i < n → m i ≤ 1000) : ∀ i, i ≤ n → (rowsK m b e i).length ≤ i * 1000
  | 0, _ => Nat.le_refl _
  | i + 1, h => by
    rw [rowsK_s, List.length_append]
    have h1 := rowsK_len (b := b) (e := e) hm i (by omega)
    have h2 := rowK_len (b := b i) (e := e i) (m i)
    have h3 := hm i h
    omega
end
end PL
/-! a dict of one's own: reading it, and storing its last key again -/
namespace PL
open PySem PySem.Spec PyProof.Rows L2
variable [Nm]
section
variable {K : PySem.W.Frag} {ρ : Rho} {I J L N : Asn} {ta tb te : TE} {tr : TA} {x y : PyData}
theorem e_kGetM {q : Addr} {kvs : List (Key × PyData)} {n : Int} (ha : E K ta ρ I (.r q) J) (hb : E K tb ρ J (.i n) N) (hN : ∀ G H, N.ok G H → (kA K q kvs).ok G H) (h : valD kvs (.inl n) = some x) : E K (tDGet ta tb) ρ I (.d x) N := fun G H σ gh en io Q k => ha G H σ gh en io _ fun v G1 H1 g1 gh1 j1 dv => hb G1 H1 σ gh1 (env_mono g1 en) j1 _ fun w G2 H2 g2 gh2 j2 dw => by
  obtain rfl : v = .ref q := dv
  obtain rfl := dv_int dw
  obtain ⟨gq, vs, hq, r⟩ := hN G2 H2 j2
  obtain ⟨u, hu, dp⟩ := (kv_get (ky := .inl n) r).2 x h
  exact ⟨q, u, rfl, .inl ⟨vs, .inl n, .of hq, rfl, hu.symm⟩, k u G2 H2 (g1.trans g2) gh2 j2 dp⟩
end
end PL
/-! sorted of any rows that a key tells apart; sorted(d.items()) -/
namespace SrtG
open PySem PySem.Spec PyProof.Rows SrtO Srt SrtD
/-- a kind of rows: tuples that begin with a whole number, and how two of them are told apart -/
structure RowK where
  κ : Type
  key : PyData → κ
  lt : κ → κ → Bool
  swo : Swo lt
  row : PyData → Prop
  head : ∀ d, row d → ∃ (a : Int) (r : List PyData), d = .tuple (.int a :: r) ∧ ∀ x ∈ r, SeqAt.shaped x = true
  cmp : ∀ r r', row (.tuple r) → row (.tuple r') → (key (.tuple r) = key (.tuple r') → r = r') → lexL r r' = some (lt (key (.tuple r)) (key (.tuple r')))
def IsRow (R : RowK) (h : Heap) (v : Value) (d : PyData) : Prop := R.row d ∧ ∃ as, Reads h v d as
theorem IsRow.keeps {R : RowK} {h h' : Heap} {v : Value} {d : PyData} (p : IsRow R h v d) (hk : ∀ b o, h.get? b = some o → h'.get? b = some o) : IsRow R h' v d := ⟨p.1, p.2.imp fun _ r => PyProof.Rows.Reads.keeps hk r⟩
theorem all_sh {a : Int} {r : List PyData} (h : ∀ x ∈ r, SeqAt.shaped x = true) : ∀ x ∈ (.int a :: r : List PyData), SeqAt.shaped x = true := fun x hx => by
  rcases List.mem_cons.mp hx with rfl | hx
  · rfl
  · exact h x hx
/-! rows told by one whole number, by two -/
abbrev K2 := Int × Int
def lex2 (p q : K2) : Bool := decide (p.1 < q.1 ∨ (p.1 = q.1 ∧ p.2 < q.2))
theorem lex2_swo : Swo lex2 := ⟨fun x y h => by
  unfold lex2 at h ⊢
  rw [decide_eq_true_iff] at h
  rw [decide_eq_false_iff_not]
  omega, fun x y z h1 h2 => by
  unfold lex2 at h1 h2 ⊢
  rw [decide_eq_false_iff_not] at h1 h2 ⊢
  omega⟩
def key2 : PyData → K2
  | .tuple (.int a :: .int b :: _) => (a, b)
  | _ => (0, 0)
def Row2 (d : PyData) : Prop := ∃ (a b : Int) (r : List PyData), d = .tuple (.int a :: .int b :: r) ∧ ∀ x ∈ r, SeqAt.shaped x = true
def R2 : RowK where
  κ := K2
  key := key2
  lt := lex2
  swo := lex2_swo
  row := Row2
  head := fun d h => by
    obtain ⟨a, b, r, e, s1⟩ := h
    exact ⟨a, .int b :: r, e, all_sh s1⟩
  cmp := fun r r' h h' hk => by
    obtain ⟨a, b, t, e, s1⟩ := h
    obtain ⟨a', b', t', e', s2⟩ := h'
    injection e with e
    injection e' with e'
    subst e e'
    show lexL (.int a :: .int b :: t) (.int a' :: .int b' :: t') = some (lex2 (a, b) (a', b'))
    unfold lex2
    rw [lexL, lexL]
    simp only [eqv_ints]
    by_cases c : a = a'
    · rw [if_pos c]
      by_cases c2 : b = b'
      · rw [if_pos c2]
        have hk2 : (.int a :: .int b :: t : List PyData) = .int a' :: .int b' :: t' := hk (show (a, b) = (a', b') by rw [c, c2])
        have e2 : t = t' := (List.cons.inj (List.cons.inj hk2).2).2
        rw [← e2, lexL_self t s1, c, c2]
        congr 1
        symm
        rw [decide_eq_false_iff_not]
        try dsimp only
        omega
      · rw [if_neg c2]
        congr 1
        rw [decide_eq_decide]
        try dsimp only
        omega
    · rw [if_neg c]
      congr 1
      rw [decide_eq_decide]
      try dsimp only
      omega
end SrtG
namespace L2
open PySem PySem.Spec PyProof.Rows SrtG
end L2
/-! over data: sorted rows of any kind, sorted(d.items()); a dict of pairs as one's own, stores and readings of any key -/
namespace PL
open PySem PySem.Spec PyProof.Rows L2 SrtG
variable [Nm]
section
variable {K : PySem.W.Frag} {ρ : Rho} {I J L N : Asn} {ta tb tc te : TE} {tr : TA} {x y : PyData}
/-- objects that are new in H', and never change -/
def extG (G H H' : Hp) : Hp := fun b => match H b with
  | some _ => G b
  | none => H' b
theorem Stp.ext {G H H' : Hp} (h : Same G H) (e : ∀ b o, H b = some o → H' b = some o) : Stp NoA G H (extG G H H') H' := by
  have old : ∀ b o, H b = some o → extG G H H' b = G b := fun b o z => by unfold extG; rw [z]
  have new : ∀ b, H b = none → extG G H H' b = H' b := fun b z => by unfold extG; rw [z]
  refine ⟨fun b o z => ?_, fun b o z => ?_, fun b o _ z => .of (e b o z), fun b o _ z n => by rw [old b o z]; exact n, fun b o z => ⟨o, e b o z⟩, fun P t => t.keep (fun g => by obtain ⟨ps, hP⟩ := t.some; rw [old P _ hP]; exact g) fun b o z _ _ => e b o z⟩
  · obtain ⟨u, hu, _⟩ := (h b o z).some
    rw [old b u hu]
    exact .of z
  · cases c : H b with
    | none =>
      rw [new b c] at z
      exact .of z
    | some u =>
      rw [old b u c] at z
      have k := h b o z
      rw [c] at k
      rw [e b u c]
      exact k
/-! ### a dict of one's own: any store, any reading, made of pairs -/
/-- a store, over data -/
def putD (kvs : List (Key × PyData)) (k : Key) (x : PyData) : List (Key × PyData) :=
  if (kvs.any fun z => decide (z.1 = k)) = true then kvs.map (fun z => if z.1 = k then (z.1, x) else z) else kvs ++ [(k, x)]
theorem kv_put {G : Hp} {ky : Key} {z : V} {zd : PyData} {vs : List (Key × V)} {kvs : List (Key × PyData)} (h : KvAll K G vs kvs) (hz : Dp K G z zd) : KvAll K G (putK vs ky z) (putD kvs ky zd) := by
  have ea : (vs.any fun kv => decide (kv.1 = ky)) = (kvs.any fun kv => decide (kv.1 = ky)) := by
    have e1 : (vs.any fun kv => decide (kv.1 = ky)) = (vs.map (·.1)).any fun k => decide (k = ky) := by rw [List.any_map]; rfl
    have e2 : (kvs.any fun kv => decide (kv.1 = ky)) = (kvs.map (·.1)).any fun k => decide (k = ky) := by rw [List.any_map]; rfl
    rw [e1, e2, h.1]
  have key : ∀ {vs : List (Key × V)} {kvs : List (Key × PyData)}, KvAll K G vs kvs → KvAll K G (vs.map fun kv => if kv.1 = ky then (kv.1, z) else kv) (kvs.map fun kv => if kv.1 = ky then (kv.1, zd) else kv) := by
    intro vs
    induction vs with
    | nil =>
      intro kvs h
      cases kvs with
      | nil => exact ⟨rfl, .nil⟩
      | cons kv kvs => have := h.1; simp at this
    | cons v vs ih =>
      intro kvs h
      cases kvs with
      | nil => have := h.1; simp at this
      | cons kv kvs =>
        obtain ⟨h1, h2⟩ := h
        have e : v.1 = kv.1 ∧ vs.map (·.1) = kvs.map (·.1) := by simpa using h1
        obtain ⟨e1, e2⟩ := e
        cases h2 with
        | cons r rr =>
          obtain ⟨i1, i2⟩ := ih ⟨e2, rr⟩
          rw [List.map_cons, List.map_cons, e1]
          by_cases c : kv.1 = ky
          · rw [if_pos c, if_pos c]
            exact ⟨by rw [List.map_cons, List.map_cons, i1], .cons hz i2⟩
          · rw [if_neg c, if_neg c]
            exact ⟨by rw [List.map_cons, List.map_cons, i1, e1], .cons r i2⟩
  unfold putK putD
  rw [ea]
  split
  · exact key h
  · refine ⟨by rw [List.map_append, List.map_append, h.1]; rfl, ?_⟩
    rw [List.map_append, List.map_append]
    exact dpa_app h.2 (.cons hz .nil)
end
end PL
/-! over data: sorted(d), list.index, a comprehension with a test over any walk -/
namespace PL
open PySem PySem.Spec PyProof.Rows L2
end PL
/-! comprehensions whose elements lean on what holds around them -/
namespace PL
open PySem PySem.Spec PyProof.Rows L2
variable [Nm]
section
variable {K : PySem.W.Frag} {ρ : Rho} {I J L N : Asn} {ta tb tc te : TE} {tr : TA} {x y : PyData}
theorem HasT.of {T : Tbs} [h : HasT T I] {I' : Asn} (k : ∀ G H, I'.ok G H → I.ok G H) : HasT T I' := ⟨fun G H z => h.get G H (k G H z)⟩
end
end PL
set_option maxHeartbeats 1000000
/-! sorted(xs, key=lambda z: (z[0], z[1])) -/
namespace LM
open PySem PySem.Spec PyProof.Rows L2
/-! ### the heap that is told of, across the making of a lambda -/
open LamX in
/-- all but the table at P is as it was; the table tells codes of the name q -/
structure Lm (P : Addr) (q : Str) (H H' : Hp) : Prop where
  keep : ∀ b o, b ≠ P → H b = some o → H' b = some o
  tab : TabS H' P q
end LM
/-! over data: sorted(xs, key=lambda z: (z[0], z[1])) -/
namespace PL
open PySem PySem.Spec PyProof.Rows L2
end PL
set_option maxHeartbeats 1000000
/-! name = {k: e for ..} -/
namespace PX
open PySem PySem.Spec PyProof.Rows L2
end PX
/-! a dict comprehension with a test; list.extend; a displayed tuple as a plain one; x in a tuple of data -/
namespace L2
open PySem PySem.Spec PyProof.Rows
end L2
namespace PL
open PySem PySem.Spec PyProof.Rows L2
end PL
/-! enumerate of a tuple; a loop's body that goes on early -/
namespace PL
open PySem PySem.Spec PyProof.Rows L2
end PL
set_option maxHeartbeats 1000000
/-! dicts whose keys are tuples of numbers and texts, wherever these tuples stand -/
namespace TK
open PySem PySem.Spec PyProof.Rows L2
/-- an entry: its key, the place of the key's tuple, its value -/
abbrev Ent := List Key × Addr × V
abbrev Raw3 := List Key × Addr × Value
abbrev RelE (e : Ent) (x : Raw3) : Prop := e.1 = x.1 ∧ e.2.1 = x.2.1 ∧ RelV e.2.2 x.2.2
def Holds (P : Program) (w : World) (a : Addr) (es : List Ent) (h : Heap) : Prop := (a == sysModules) = false ∧ ∃ ys : List Raw3, Paired RelE es ys ∧
  ∃ o ds ep, h.get? a = some o ∧ o.ExactDict ∧ o.data = .dict ds ep ∧ ds.toList = ys.map (entryOfKey (tupleKind (mixKind P w))) ∧ (ys.map (·.1)).Nodup
/-! ### readings -/
end TK
set_option maxHeartbeats 1000000
/-! {e: f for ..}, the keys being tuples -/
/-! dicts whose keys are tuples of numbers and texts, over data -/
namespace PL
open PySem PySem.Spec PyProof.Rows L2
end PL
/-! dicts of lists of one's own; a comprehension over the items of a dict of one's own -/
namespace PL
open PySem PySem.Spec PyProof.Rows L2
variable [Nm]
section
variable {K : PySem.W.Frag} {ρ ρ1 : Rho} {I J L N : Asn} {ta tb tc te : TE} {tr : TA} {x y : PyData} {k : Out} {us ts : TS} {q r : Addr} {rows : List (Int × Addr)} {D : Int → List PyData} {n : Int}
mutual
theorem dp_sub {G G' : Hp} (hl : ∀ a xs, SqL K G a xs → SqL K G' a xs) (ht : ∀ a xs, SqT K G a xs → SqT K G' a xs) : ∀ (d : PyData) (v : V), Dp K G v d → Dp K G' v d
  | .none, _, h => by cases h; exact .non
  | .bool b, _, h => by cases h; exact .bl b
  | .int i, _, h => by cases h; exact .int i
  | .str x, _, h => by cases h; exact .str x
  | .list ds, _, h => by
    cases h with
    | lst a b => exact .lst (hl _ _ a) (dp_subs hl ht ds _ b)
  | .tuple ds, _, h => by
    cases h with
    | tup a b => exact .tup (ht _ _ a) (dp_subs hl ht ds _ b)
  | .dict _, _, h => by cases h
theorem dp_subs {G G' : Hp} (hl : ∀ a xs, SqL K G a xs → SqL K G' a xs) (ht : ∀ a xs, SqT K G a xs → SqT K G' a xs) : ∀ (ds : List PyData) (vs : List V), DpAll K G vs ds → DpAll K G' vs ds
  | [], _, h => by cases h; exact .nil
  | d :: ds, _, h => by
    cases h with
    | cons a b => exact .cons (dp_sub hl ht d _ a) (dp_subs hl ht ds _ b)
end
/-- what stands locked at q -/
def fzA (q : Addr) (o : HO) : Asn := ⟨NoA, fun G _ => G q = some o ∧ ∀ ps, o ≠ .tbl ps, fun M G H G2 H2 n s ⟨h, t⟩ => by
  obtain ⟨u, hu, e⟩ := (s.gg q _ h).some
  rw [e t] at hu
  exact ⟨hu, t⟩, fun _ _ _ _ z => z.elim⟩
abbrev itemD (kv : Int × PyData) : PyData := .tuple [.int kv.1, kv.2]
theorem e_max2 {i j : Int} (hr : A K tr ρ I [.i i, .i j] J) : E K (tCB (fun xs H Q => ∃ i j, xs = [.int i, .int j] ∧ Q (.int (if j > i then j else i)) H) tr) ρ I (.i (if i < j then j else i)) J :=
  e_cb hr fun G H vs gh jo h Q k => by
    obtain ⟨v, w, rfl, h1, h2⟩ := dva2 h
    obtain rfl := dv_int h1
    obtain rfl := dv_int h2
    exact ⟨i, j, rfl, k _ G H (Same.refl _) gh jo (.int _)⟩
end
end PL
set_option maxHeartbeats 1000000
/-! sorted(xs, key=lambda z: z[0]) -/
namespace PL
open PySem PySem.Spec PyProof.Rows L2
end PL
set_option maxHeartbeats 1000000
/-! a list comprehension whose element may raise -/
/-! a list of steps, each a tuple of three lists, the last one still grows; tuple.index; comprehensions told as lists -/
namespace PL
open PySem PySem.Spec PyProof.Rows L2
variable [Nm]
section
variable {K : PySem.W.Frag} {ρ : Rho} {I J L N : Asn} {ta tb tc te : TE} {tr : TA} {x y : PyData} {ts us : TS} {k : Out}
structure P3 where
  p : List PyData
  s : List PyData
  f : List PyData
def P3.d (c : P3) : PyData := .tuple [.list c.p, .list c.s, .list c.f]
structure A4 where
  t : Addr
  a : Addr
  b : Addr
  c : Addr
structure A4.ok (w : A4) (q : Addr) : Prop where
  qa : q ≠ w.a
  qb : q ≠ w.b
  qc : q ≠ w.c
  ab : w.a ≠ w.b
  ac : w.a ≠ w.c
  bc : w.b ≠ w.c
def P3.at (c : P3) : Nat → List PyData
  | 0 => c.p
  | 1 => c.s
  | _ => c.f
end
end PL
/-! lists: xs[i:j], xs[::-1] -/
namespace PL
open PySem PySem.Spec PyProof.Rows L2
end PL
/-! sep.join(reversed(a list of texts)) -/
namespace L2
open PySem PySem.W PySem.Calls PyProof.Rows PyProof.V PySem.Spec
end L2
/-! int(a text of more than 640 signs) -/
namespace PySem.W
open PySem PySem.Calls PySem.NumText PyProof.Rows
namespace KIN
end KIN
end PySem.W
namespace L2
open PySem PySem.Spec PyProof.Rows
end L2
/-! texts: figures, parts, slices, signs -/
namespace L2
open PySem PySem.Spec PyProof.Rows
end L2
namespace PL
open PySem PySem.Spec PyProof.Rows L2
end PL
/-! figures: texts of whole numbers in tens -/
namespace TD
open PySem PySem.NumText PySem.W PySem.W.KIN
end TD
/-! texts as lists of signs -/
namespace TS
open PySem PySem.NumText PySem.W PySem.W.KIN TD PySem.Builtin.Str PyProof.Rows
/-! ### parts between strokes -/
end TS
/-! all(..), any(..) of a generator expression over the signs of a text -/
namespace PL
open PySem PySem.Spec PyProof.Rows L2 GX
end PL
/-! over data: a comprehension that raises; name += e; a < b < c; texts in texts; len(set(xs)) -/
namespace PL
open PySem PySem.Spec PyProof.Rows L2 TS
end PL
/-! {elt for t0 in i0 if .. for t1 in i1 if ..}, elt a whole number -/
namespace L2
open PySem PySem.Spec PyProof.Rows
end L2
set_option maxHeartbeats 4000000
namespace L2
open PySem PySem.Spec PyProof.Rows PpSet
end L2
/-! sorted of a set of tuples of whole numbers of any lengths, told by their first numbers -/
namespace L2
open PySem PySem.Spec PyProof.Rows SrtO Srt SrtD SrtG
end L2
/-! list(d.values()); sorted of a set of whole numbers that a comprehension makes; sorted(set(xs)) of tuples -/
namespace L2
open PySem PySem.Spec PyProof.Rows SrtG
end L2
namespace PL
open PySem PySem.Spec PyProof.Rows L2 SrtG
end PL
/-! zip of two lists; lists of one's own made by comprehensions; two items that change their places -/
namespace PL
open PySem PySem.Spec PyProof.Rows L2 FR GX PX RZ
end PL
namespace L2
open PySem PySem.Spec PyProof.Rows
end L2
namespace PL
open PySem PySem.Spec PyProof.Rows L2
end PL
namespace PL
open PySem PySem.Spec PyProof.Rows L2 FR
end PL
/-! dicts of one's own that a comprehension or a display makes; d.get(k) -/
namespace PL
open PySem PySem.Spec PyProof.Rows L2
variable [Nm]
section
variable {K : PySem.W.Frag} {ρ : Rho} {I J L N : Asn} {ta tb te tk : TE} {tr : TA} {x y : PyData} {us : TS} {k : Out}
/-- n in d, n not in d, d one's own -/
theorem e_kInM {q : Addr} {kvs : List (Key × PyData)} {n : Int} (ha : E K ta ρ I (.i n) J) (hb : E K tb ρ J (.r q) N) (hN : ∀ G H, N.ok G H → (kA K q kvs).ok G H) : E K (tDIn ta tb) ρ I (.b (valD kvs (.inl n)).isSome) N := fun G H σ gh en io Q k => ha G H σ gh en io _ fun v G1 H1 g1 gh1 j1 dv => hb G1 H1 σ gh1 (env_mono g1 en) j1 _ fun w G2 H2 g2 gh2 j2 dw => by
  obtain rfl := dv_int dv
  obtain rfl : w = .ref q := dw
  obtain ⟨gq, vs, hq, r⟩ := hN G2 H2 j2
  refine ⟨q, valV vs (.inl n), rfl, .inl ⟨vs, .inl n, .of hq, rfl, rfl⟩, ?_⟩
  rw [kv_some r]
  exact k _ G2 H2 (g1.trans g2) gh2 j2 (.bl _)
theorem e_kNotM {q : Addr} {kvs : List (Key × PyData)} {n : Int} (ha : E K ta ρ I (.i n) J) (hb : E K tb ρ J (.r q) N) (hN : ∀ G H, N.ok G H → (kA K q kvs).ok G H) : E K (tDNotIn ta tb) ρ I (.b (!(valD kvs (.inl n)).isSome)) N := fun G H σ gh en io Q k => ha G H σ gh en io _ fun v G1 H1 g1 gh1 j1 dv => hb G1 H1 σ gh1 (env_mono g1 en) j1 _ fun w G2 H2 g2 gh2 j2 dw => by
  obtain rfl := dv_int dv
  obtain rfl : w = .ref q := dw
  obtain ⟨gq, vs, hq, r⟩ := hN G2 H2 j2
  refine ⟨q, valV vs (.inl n), rfl, .inl ⟨vs, .inl n, .of hq, rfl, rfl⟩, ?_⟩
  rw [kv_some r]
  exact k _ G2 H2 (g1.trans g2) gh2 j2 (.bl _)
/-! what a dict by names holds, told by functions -/
end
end PL
namespace PL
open PySem PySem.Spec PyProof.Rows L2 FR GX PX RZ
variable [Nm]
section
variable {K : PySem.W.Frag} {ρ : Rho} {I J : Asn} {tr : TA} {xs ys : List PyData}
/-- what is left over is forgotten -/
theorem s_neW {ts : TS} {P P2 : Rho → Asn → Prop} (h : S K ts ρ I (.ne P)) (hp : ∀ r L, P r L → ∃ r', Less r r' ∧ P2 r' L) : S K ts ρ I (.ne P2) := fun G H σ D gh en io f => h G H σ D gh en io fun r L p G2 H2 σ2 a b c d => by
  obtain ⟨r', l, q⟩ := hp r L p
  exact f r' L q G2 H2 σ2 a b (env_less l c) d
end
end PL
/-! Fractions as rational numbers. Plain Lean. -/
namespace FR
def vl (a : F) : Rat := (a.1 : Rat) / (a.2 : Rat)
theorem cpos {n : Int} (h : 0 < n) : (0 : Rat) < (n : Rat) := Rat.intCast_lt_intCast.mpr h
theorem div_eq {x y n d : Rat} (hy : y ≠ 0) (hd : d ≠ 0) (h : x * d = n * y) : x / y = n / d := by grind
theorem vl_nf {n d : Int} (h : 0 < d) : vl (nf n d) = (n : Rat) / (d : Rat) := by
  have p := cpos (nf_nrm (n := n) h).1
  have q := cpos h
  have z : (((nf n d).1 * d : Int) : Rat) = ((n * (nf n d).2 : Int) : Rat) := by rw [nf_mul1 h]
  rw [Rat.intCast_mul, Rat.intCast_mul] at z
  exact div_eq (by grind) (by grind) z
theorem vl_lf {n d : Int} (h : d ≠ 0) : vl (lf n d) = (n : Rat) / (d : Rat) := by
  unfold lf
  split
  · rw [vl_nf (by omega), Rat.intCast_sub, Rat.intCast_sub]
    have q : (d : Rat) ≠ 0 := fun z => h (Rat.intCast_inj.mp z)
    exact div_eq (by grind) q (by grind)
  · exact vl_nf (by omega)
theorem vl_plus {a b : F} (ha : Nrm a) (hb : Nrm b) : vl (plusM a b) = vl a + vl b := by
  rw [plus_eq ha hb, vl_nf (Int.mul_pos ha.1 hb.1), Rat.intCast_add, Rat.intCast_mul, Rat.intCast_mul, Rat.intCast_mul]
  have p := cpos ha.1
  have q := cpos hb.1
  unfold vl
  have p' : (a.2 : Rat) ≠ 0 := by grind
  have q' : (b.2 : Rat) ≠ 0 := by grind
  grind
theorem vl_minus {a b : F} (ha : Nrm a) (hb : Nrm b) : vl (minusM a b) = vl a - vl b := by
  rw [minus_eq ha hb, vl_nf (Int.mul_pos ha.1 hb.1), Rat.intCast_sub, Rat.intCast_mul, Rat.intCast_mul, Rat.intCast_mul]
  have p := cpos ha.1
  have q := cpos hb.1
  unfold vl
  have p' : (a.2 : Rat) ≠ 0 := by grind
  have q' : (b.2 : Rat) ≠ 0 := by grind
  grind
theorem vl_times {a b : F} (ha : Nrm a) (hb : Nrm b) : vl (timesM a b) = vl a * vl b := by
  rw [times_eq ha hb, vl_nf (Int.mul_pos ha.1 hb.1), Rat.intCast_mul, Rat.intCast_mul]
  have p := cpos ha.1
  have q := cpos hb.1
  unfold vl
  have p' : (a.2 : Rat) ≠ 0 := by grind
  have q' : (b.2 : Rat) ≠ 0 := by grind
  grind
theorem vl_inv {b : F} (hb : Nrm b) (h : b.1 ≠ 0) : vl (invM b) = 1 / vl b := by
  have q := cpos hb.1
  have q' : (b.2 : Rat) ≠ 0 := by grind
  have n' : (b.1 : Rat) ≠ 0 := fun z => h (Rat.intCast_inj.mp z)
  unfold vl invM
  split
  · show ((-b.2 : Int) : Rat) / ((-b.1 : Int) : Rat) = _
    rw [Rat.intCast_neg, Rat.intCast_neg]
    grind
  · show (b.2 : Rat) / (b.1 : Rat) = _
    grind
theorem vl_over {a b : F} (ha : Nrm a) (hb : Nrm b) (h : b.1 ≠ 0) : vl (overM a b) = vl a / vl b := by
  unfold overM
  rw [vl_times ha (inv_nrm hb h), vl_inv hb h]
  grind
theorem div_lt_div {a b c d : Rat} (hb : 0 < b) (hd : 0 < d) : a / b < c / d ↔ a * d < c * b := by
  rw [Rat.div_lt_iff hb]
  have e : c / d * b = c * b / d := by grind
  rw [e, Rat.lt_div_iff hd]
theorem vl_lt {a b : F} (ha : 0 < a.2) (hb : 0 < b.2) : vl a < vl b ↔ a.1 * b.2 < b.1 * a.2 := by
  unfold vl
  rw [div_lt_div (cpos ha) (cpos hb), ← Rat.intCast_mul, ← Rat.intCast_mul, Rat.intCast_lt_intCast]
theorem less_vl {a b : F} (ha : 0 < a.2) (hb : 0 < b.2) : less a b = decide (vl a < vl b) := by
  unfold less
  by_cases c : a.1 * b.2 < b.1 * a.2
  · rw [decide_eq_true c, decide_eq_true ((vl_lt ha hb).mpr c)]
  · rw [decide_eq_false c, decide_eq_false (fun z => c ((vl_lt ha hb).mp z))]
theorem vl_inj {a b : F} (ha : Nrm a) (hb : Nrm b) (h : vl a = vl b) : a = b := by
  have h1 := (vl_lt (a := a) (b := b) ha.1 hb.1)
  have h2 := (vl_lt (a := b) (b := a) hb.1 ha.1)
  refine nrm_one ha hb ?_
  have z1 : ¬ a.1 * b.2 < b.1 * a.2 := fun z => by have := h1.mpr z; grind
  have z2 : ¬ b.1 * a.2 < a.1 * b.2 := fun z => by have := h2.mpr z; grind
  omega
theorem vl_zero : vl (0, 1) = 0 := by unfold vl; grind
theorem vl_one : vl (1, 1) = 1 := by unfold vl; grind
theorem vl_pos {a : F} (ha : 0 < a.2) : 0 < vl a ↔ 0 < a.1 := by
  have := vl_lt (a := (0, 1)) (b := a) (by decide) ha
  rw [vl_zero] at this
  rw [this]
  show (0 * a.2 < a.1 * 1) ↔ _
  omega
theorem vl_neg {a : F} (ha : 0 < a.2) : vl a < 0 ↔ a.1 < 0 := by
  have := vl_lt (a := a) (b := (0, 1)) ha (by decide)
  rw [vl_zero] at this
  rw [this]
  show (a.1 * 1 < 0 * a.2) ↔ _
  omega
theorem nrm_zero : Nrm ((0, 1) : F) := ⟨by decide, by decide⟩
theorem nrm_unit : Nrm ((1, 1) : F) := ⟨by decide, by decide⟩
/-! ### the law's own sort -/
def ins (x : F) (out : List F) : List F :=
  let at_ := (out.filter fun y => less y x).length
  if at_ = out.length ∨ out[at_]? ≠ some x then out.take at_ ++ [x] ++ out.drop at_ else out
end FR
/-! Spans of times and the least and greatest of good moments. Plain Lean. -/
namespace FR
def more (a b : F) : Bool := less b a
/-- the greater, the lesser of two, as the program takes them -/
def mx (a b : F) : F := bestL more a [a, b]
def mn (a b : F) : F := bestL less a [a, b]
theorem mx_eq (a b : F) (ha : 0 < a.2) (hb : 0 < b.2) : (mx a b = a ∧ vl b ≤ vl a) ∨ (mx a b = b ∧ vl a ≤ vl b) := by
  have e : mx a b = if more b (if more a a then a else a) then b else (if more a a then a else a) := rfl
  have e2 : (if more a a = true then a else a) = a := by split <;> rfl
  rw [e, e2]
  unfold more
  rw [less_vl ha hb]
  by_cases c : vl a < vl b
  · rw [decide_eq_true c, if_pos rfl]
    exact .inr ⟨rfl, by grind⟩
  · rw [decide_eq_false c, if_neg (by decide)]
    exact .inl ⟨rfl, by grind⟩
theorem mn_eq (a b : F) (ha : 0 < a.2) (hb : 0 < b.2) : (mn a b = a ∧ vl a ≤ vl b) ∨ (mn a b = b ∧ vl b ≤ vl a) := by
  have e : mn a b = if less b (if less a a then a else a) then b else (if less a a then a else a) := rfl
  have e2 : (if less a a = true then a else a) = a := by split <;> rfl
  rw [e, e2]
  rw [less_vl hb ha]
  by_cases c : vl b < vl a
  · rw [decide_eq_true c, if_pos rfl]
    exact .inr ⟨rfl, by grind⟩
  · rw [decide_eq_false c, if_neg (by decide)]
    exact .inl ⟨rfl, by grind⟩
def fstM (sp : List (F × F)) : F := sp.foldl (fun f s => mx f s.1) (0, 1)
def lstM (sp : List (F × F)) : F := sp.foldl (fun f s => mn f s.2) (1, 1)
theorem fst_ok : ∀ (sp : List (F × F)) (f : F), 0 < f.2 → (∀ s ∈ sp, 0 < s.1.2) → (sp.foldl (fun f s => mx f s.1) f = f ∨ ∃ s ∈ sp, sp.foldl (fun f s => mx f s.1) f = s.1) ∧ vl f ≤ vl (sp.foldl (fun f s => mx f s.1) f) ∧ ∀ s ∈ sp, vl s.1 ≤ vl (sp.foldl (fun f s => mx f s.1) f)
  | [], f, _, _ => ⟨.inl rfl, by simp, fun s h => by simp at h⟩
  | s :: sp, f, hf, hs => by
    have h1 := hs s List.mem_cons_self
    rw [List.foldl_cons]
    have hm := mx_eq f s.1 hf h1
    have hp : 0 < (mx f s.1).2 := by
      rcases hm with ⟨e, _⟩ | ⟨e, _⟩ <;> rw [e] <;> assumption
    obtain ⟨i1, i2, i3⟩ := fst_ok sp (mx f s.1) hp fun t ht => hs t (List.mem_cons_of_mem _ ht)
    generalize sp.foldl (fun f s => mx f s.1) (mx f s.1) = r at *
    refine ⟨?_, ?_, fun t ht => ?_⟩
    · rcases i1 with e | ⟨t, ht, e⟩
      · rcases hm with ⟨e2, _⟩ | ⟨e2, _⟩
        · exact .inl (e.trans e2)
        · exact .inr ⟨s, List.mem_cons_self, e.trans e2⟩
      · exact .inr ⟨t, List.mem_cons_of_mem _ ht, e⟩
    · rcases hm with ⟨e2, h2⟩ | ⟨e2, h2⟩ <;> rw [e2] at i2 <;> grind
    · rcases List.mem_cons.mp ht with rfl | ht
      · rcases hm with ⟨e2, h2⟩ | ⟨e2, h2⟩ <;> rw [e2] at i2 <;> grind
      · exact i3 t ht
theorem lst_ok : ∀ (sp : List (F × F)) (f : F), 0 < f.2 → (∀ s ∈ sp, 0 < s.2.2) → (sp.foldl (fun f s => mn f s.2) f = f ∨ ∃ s ∈ sp, sp.foldl (fun f s => mn f s.2) f = s.2) ∧ vl (sp.foldl (fun f s => mn f s.2) f) ≤ vl f ∧ ∀ s ∈ sp, vl (sp.foldl (fun f s => mn f s.2) f) ≤ vl s.2
  | [], f, _, _ => ⟨.inl rfl, by simp, fun s h => by simp at h⟩
  | s :: sp, f, hf, hs => by
    have h1 := hs s List.mem_cons_self
    rw [List.foldl_cons]
    have hm := mn_eq f s.2 hf h1
    have hp : 0 < (mn f s.2).2 := by
      rcases hm with ⟨e, _⟩ | ⟨e, _⟩ <;> rw [e] <;> assumption
    obtain ⟨i1, i2, i3⟩ := lst_ok sp (mn f s.2) hp fun t ht => hs t (List.mem_cons_of_mem _ ht)
    generalize sp.foldl (fun f s => mn f s.2) (mn f s.2) = r at *
    refine ⟨?_, ?_, fun t ht => ?_⟩
    · rcases i1 with e | ⟨t, ht, e⟩
      · rcases hm with ⟨e2, _⟩ | ⟨e2, _⟩
        · exact .inl (e.trans e2)
        · exact .inr ⟨s, List.mem_cons_self, e.trans e2⟩
      · exact .inr ⟨t, List.mem_cons_of_mem _ ht, e⟩
    · rcases hm with ⟨e2, h2⟩ | ⟨e2, h2⟩ <;> rw [e2] at i2 <;> grind
    · rcases List.mem_cons.mp ht with rfl | ht
      · rcases hm with ⟨e2, h2⟩ | ⟨e2, h2⟩ <;> rw [e2] at i2 <;> grind
      · exact i3 t ht
def spanM (sp : List (F × F)) : Option (F × F) := if less (lstM sp) (fstM sp) then none else some (fstM sp, lstM sp)
/-! ### a ray against a box, axis by axis -/
structure Ax where
  l : F
  h : F
  o : F
  w : F
structure Ax.Ok (a : Ax) : Prop where
  l : Nrm a.l
  h : Nrm a.h
  o : Nrm a.o
  w : Nrm a.w
def Ax.span (a : Ax) : F × F := if 0 < a.w.1 then (overM (minusM a.l a.o) a.w, overM (minusM a.h a.o) a.w) else (overM (minusM a.h a.o) a.w, overM (minusM a.l a.o) a.w)
def Ax.out (a : Ax) : Bool := a.w.1 == 0 && (decide (0 < (minusM a.l a.o).1) || decide ((minusM a.h a.o).1 < 0))
def Ax.spans (a : Ax) : List (F × F) := if a.w.1 = 0 then [] else [a.span]
def Ax.inside (a : Ax) (t : F) : Bool := !(less (lplus a.o (ltimes a.w t)) a.l || less a.h (lplus a.o (ltimes a.w t)))
def tm (line : F) (a : Ax) : F := lf ((lminus line a.o).1 * a.w.2) ((lminus line a.o).2 * a.w.1)
def keepT (t : F) : List F := if !less t (0, 1) && !less (1, 1) t then [t] else []
def Ax.moms (a : Ax) : List F := if a.w.1 = 0 then [] else keepT (tm a.l a) ++ keepT (tm a.h a)
theorem tm_eq {line : F} {a : Ax} (hl : Nrm line) (ha : a.Ok) (hw : a.w.1 ≠ 0) : tm line a = overM (minusM line a.o) a.w := by
  have n1 := minus_nrm hl ha.o
  have e := lminus_eq hl ha.o
  unfold tm
  rw [e]
  refine vl_inj (lf_nrm (Int.mul_ne_zero (by have := n1.1; omega) hw)) (over_nrm n1 ha.w hw) ?_
  rw [vl_lf (Int.mul_ne_zero (by have := n1.1; omega) hw), vl_over n1 ha.w hw, Rat.intCast_mul, Rat.intCast_mul]
  unfold vl
  have p := cpos n1.1
  have q := cpos ha.w.1
  have p' : ((minusM line a.o).2 : Rat) ≠ 0 := by grind
  have q' : (a.w.2 : Rat) ≠ 0 := by grind
  have r' : (a.w.1 : Rat) ≠ 0 := fun z => hw (Rat.intCast_inj.mp z)
  grind
theorem inside_iff {a : Ax} (ha : a.Ok) {t : F} (ht : Nrm t) : a.inside t = true ↔ vl a.l ≤ vl a.o + vl a.w * vl t ∧ vl a.o + vl a.w * vl t ≤ vl a.h := by
  have n1 := times_nrm ha.w ht
  have n2 := plus_nrm ha.o n1
  unfold Ax.inside
  rw [ltimes_eq ha.w ht, lplus_eq ha.o n1, less_vl n2.1 ha.l.1, less_vl ha.h.1 n2.1, vl_plus ha.o n1, vl_times ha.w ht]
  simp only [Bool.not_eq_true', Bool.or_eq_false_iff, decide_eq_false_iff_not]
  constructor
  · rintro ⟨h1, h2⟩
    exact ⟨by grind, by grind⟩
  · rintro ⟨h1, h2⟩
    exact ⟨by grind, by grind⟩
theorem div_le_pos {x t w : Rat} (hw : 0 < w) : x / w ≤ t ↔ x ≤ w * t := by
  have h := Rat.lt_div_iff (a := t) (b := x) hw
  constructor
  · intro z
    have : ¬ t * w < x := fun q => by have := h.mpr q; grind
    grind
  · intro z
    have : ¬ t < x / w := fun q => by have := h.mp q; grind
    grind
theorem le_div_pos {x t w : Rat} (hw : 0 < w) : t ≤ x / w ↔ w * t ≤ x := by
  have h := Rat.div_lt_iff (a := x) (b := w) (c := t) hw
  constructor
  · intro z
    have : ¬ x < t * w := fun q => by have := h.mpr q; grind
    grind
  · intro z
    have : ¬ x / w < t := fun q => by have := h.mp q; grind
    grind
theorem div_neg_neg {x w : Rat} (hw : w ≠ 0) : x / w = (-x) / (-w) := by
  have : -w ≠ 0 := by grind
  grind
theorem span_iff {a : Ax} (ha : a.Ok) (hw : a.w.1 ≠ 0) (t : F) (ht : Nrm t) : a.inside t = true ↔ vl a.span.1 ≤ vl t ∧ vl t ≤ vl a.span.2 := by
  have nl := minus_nrm ha.l ha.o
  have nh := minus_nrm ha.h ha.o
  rw [inside_iff ha ht]
  have wne : vl a.w ≠ 0 := fun z => by
    have h1 := vl_pos ha.w.1
    have h2 := vl_neg ha.w.1
    have : 0 < a.w.1 ∨ a.w.1 < 0 := by omega
    rcases this with c | c
    · have := h1.mpr c; grind
    · have := h2.mpr c; grind
  unfold Ax.span
  by_cases c : 0 < a.w.1
  · rw [if_pos c]
    have wp := (vl_pos ha.w.1).mpr c
    show _ ↔ vl (overM (minusM a.l a.o) a.w) ≤ vl t ∧ vl t ≤ vl (overM (minusM a.h a.o) a.w)
    rw [vl_over nl ha.w hw, vl_over nh ha.w hw, vl_minus ha.l ha.o, vl_minus ha.h ha.o, div_le_pos wp, le_div_pos wp]
    constructor <;> rintro ⟨h1, h2⟩ <;> exact ⟨by grind, by grind⟩
  · rw [if_neg c]
    have wn := (vl_neg ha.w.1).mpr (show a.w.1 < 0 by omega)
    show _ ↔ vl (overM (minusM a.h a.o) a.w) ≤ vl t ∧ vl t ≤ vl (overM (minusM a.l a.o) a.w)
    have wp : 0 < -vl a.w := by grind
    rw [vl_over nl ha.w hw, vl_over nh ha.w hw, vl_minus ha.l ha.o, vl_minus ha.h ha.o, div_neg_neg wne, div_neg_neg (x := vl a.l - vl a.o) wne, div_le_pos wp, le_div_pos wp]
    constructor <;> rintro ⟨h1, h2⟩ <;> exact ⟨by grind, by grind⟩
theorem keep_mem {t x : F} (ht : 0 < t.2) : x ∈ keepT t ↔ x = t ∧ 0 ≤ vl t ∧ vl t ≤ 1 := by
  unfold keepT
  rw [less_vl ht (by decide), less_vl (by decide) ht, vl_zero, vl_one]
  by_cases c1 : vl t < 0
  · rw [decide_eq_true c1]
    simp
    intro _ h
    grind
  · by_cases c2 : 1 < vl t
    · rw [decide_eq_true c2]
      simp
      intro _ h
      grind
    · rw [decide_eq_false c1, decide_eq_false c2]
      simp
      intro _
      constructor <;> grind
def rayM (a b : Ax) : Option (F × F) := if a.out || b.out then none else spanM (a.spans ++ b.spans)
theorem ax_ok {a : Ax} (ha : a.Ok) (ho : a.out = false) : (∀ s ∈ a.spans, Nrm s.1 ∧ Nrm s.2) ∧ (∀ m ∈ a.moms, Nrm m ∧ 0 ≤ vl m ∧ vl m ≤ 1) ∧ (∀ t : F, Nrm t → (a.inside t = true ↔ ∀ s ∈ a.spans, vl s.1 ≤ vl t ∧ vl t ≤ vl s.2)) ∧
    (∀ s ∈ a.spans, 0 ≤ vl s.1 → vl s.1 ≤ 1 → s.1 ∈ a.moms) ∧ (∀ s ∈ a.spans, 0 ≤ vl s.2 → vl s.2 ≤ 1 → s.2 ∈ a.moms) := by
  have nl := minus_nrm ha.l ha.o
  have nh := minus_nrm ha.h ha.o
  unfold Ax.spans Ax.moms
  by_cases c : a.w.1 = 0
  · rw [if_pos c, if_pos c]
    refine ⟨fun s h => by simp at h, fun s h => by simp at h, fun t ht => ⟨fun _ s h => by simp at h, fun _ => ?_⟩, fun s h => by simp at h, fun s h => by simp at h⟩
    rw [inside_iff ha ht]
    unfold Ax.out at ho
    rw [c] at ho
    simp only [BEq.rfl, Bool.true_and, Bool.or_eq_false_iff, decide_eq_false_iff_not] at ho
    have h1 := vl_pos nl.1
    have h2 := vl_neg nh.1
    rw [vl_minus ha.l ha.o] at h1
    rw [vl_minus ha.h ha.o] at h2
    have w0 : vl a.w = 0 := by
      unfold vl
      rw [c]
      grind
    rw [w0]
    constructor
    · have : ¬ 0 < vl a.l - vl a.o := fun z => ho.1 (h1.mp z)
      grind
    · have : ¬ vl a.h - vl a.o < 0 := fun z => ho.2 (h2.mp z)
      grind
  · rw [if_neg c, if_neg c, tm_eq ha.l ha c, tm_eq ha.h ha c]
    have n1 := over_nrm nl ha.w c
    have n2 := over_nrm nh ha.w c
    have ns : Nrm a.span.1 ∧ Nrm a.span.2 := by
      unfold Ax.span
      split
      · exact ⟨n1, n2⟩
      · exact ⟨n2, n1⟩
    have sm : ∀ x, x = a.span.1 ∨ x = a.span.2 → 0 ≤ vl x → vl x ≤ 1 → x ∈ keepT (overM (minusM a.l a.o) a.w) ++ keepT (overM (minusM a.h a.o) a.w) := fun x hx h1 h2 => by
      rw [List.mem_append, keep_mem n1.1, keep_mem n2.1]
      unfold Ax.span at hx
      split at hx
      · rcases hx with rfl | rfl
        · exact .inl ⟨rfl, h1, h2⟩
        · exact .inr ⟨rfl, h1, h2⟩
      · rcases hx with rfl | rfl
        · exact .inr ⟨rfl, h1, h2⟩
        · exact .inl ⟨rfl, h1, h2⟩
    refine ⟨fun s hs => by rw [List.mem_singleton.mp hs]; exact ns, fun m hm => ?_, fun t ht => ?_, fun s hs h1 h2 => ?_, fun s hs h1 h2 => ?_⟩
    · rcases List.mem_append.mp hm with hm | hm
      · obtain ⟨rfl, h1, h2⟩ := (keep_mem n1.1).mp hm
        exact ⟨n1, h1, h2⟩
      · obtain ⟨rfl, h1, h2⟩ := (keep_mem n2.1).mp hm
        exact ⟨n2, h1, h2⟩
    · rw [span_iff ha c t ht]
      constructor
      · intro h s hs
        rw [List.mem_singleton.mp hs]
        exact h
      · intro h
        exact h _ (List.mem_singleton.mpr rfl)
    · rw [List.mem_singleton.mp hs] at h1 h2 ⊢
      exact sm _ (.inl rfl) h1 h2
    · rw [List.mem_singleton.mp hs] at h1 h2 ⊢
      exact sm _ (.inr rfl) h1 h2
theorem out_none {a : Ax} (ha : a.Ok) (ho : a.out = true) (t : F) (ht : Nrm t) : a.inside t = false := by
  have nl := minus_nrm ha.l ha.o
  have nh := minus_nrm ha.h ha.o
  refine Bool.eq_false_iff.mpr fun z => ?_
  rw [inside_iff ha ht] at z
  unfold Ax.out at ho
  simp only [Bool.and_eq_true, beq_iff_eq, Bool.or_eq_true, decide_eq_true_eq] at ho
  obtain ⟨c, ho⟩ := ho
  have h1 := vl_pos nl.1
  have h2 := vl_neg nh.1
  rw [vl_minus ha.l ha.o] at h1
  rw [vl_minus ha.h ha.o] at h2
  have w0 : vl a.w = 0 := by
    unfold vl
    rw [c]
    grind
  rw [w0] at z
  rcases ho with ho | ho
  · have := h1.mpr ho
    grind
  · have := h2.mpr ho
    grind
end FR
/-! Two moving boxes: spans of times against the gaps between moments. Plain Lean. -/
namespace FR
/-! ### two boxes on an axis: low end, size and way of each -/
structure Sx where
  la : F
  sa : F
  va : F
  lb : F
  sb : F
  vb : F
structure Sx.Ok (a : Sx) : Prop where
  la : Nrm a.la
  sa : Nrm a.sa
  va : Nrm a.va
  lb : Nrm a.lb
  sb : Nrm a.sb
  vb : Nrm a.vb
def Sx.w (a : Sx) : F := minusM a.vb a.va
def Sx.lo (a : Sx) : F := minusM a.la (plusM a.lb a.sb)
def Sx.hi (a : Sx) : F := minusM (plusM a.la a.sa) a.lb
def Sx.out (a : Sx) : Bool := a.w.1 == 0 && (decide (0 ≤ a.lo.1) || decide (a.hi.1 ≤ 0))
def Sx.span (a : Sx) : F × F := if 0 < a.w.1 then (overM a.lo a.w, overM a.hi a.w) else (overM a.hi a.w, overM a.lo a.w)
def Sx.spans (a : Sx) : List (F × F) := if a.w.1 = 0 then [] else [a.span]
def lmx (x y : F) : F := if less x y then y else x
def gapM (pa sa pb sb : F) : F := lmx (lminus pb (lplus pa sa)) (lminus pa (lplus pb sb))
def Sx.inside (a : Sx) (t : F) : Bool := decide ((gapM (lplus a.la (ltimes a.va t)) a.sa (lplus a.lb (ltimes a.vb t)) a.sb).1 < 0)
def tmG (g w : F) : F := lf (g.1 * w.2) (g.2 * w.1)
def Sx.moms (a : Sx) : List F := if a.w.1 = 0 then [] else keepT (tmG a.hi a.w) ++ keepT (tmG a.lo a.w)
/-- the two boxes exchanged -/
def Sx.swap (a : Sx) : Sx := ⟨a.lb, a.sb, a.vb, a.la, a.sa, a.va⟩
theorem Sx.Ok.swap {a : Sx} (ha : a.Ok) : a.swap.Ok := ⟨ha.lb, ha.sb, ha.vb, ha.la, ha.sa, ha.va⟩
end FR
/-! Fractions whose denominators divide a number and whose values are bounded. Plain Lean. -/
namespace FR
/-- D times the value is an integer, the value lies from -B to B -/
structure Sm (D B : Nat) (a : F) : Prop where
  nrm : Nrm a
  int : ∃ z : Int, vl a * (D : Int) = z
  lo : -(B : Int) ≤ vl a
  hi : vl a ≤ (B : Int)
theorem den_dvd {a : F} {D z : Int} (h : Nrm a) (e : vl a * D = z) : a.2 ∣ D := by
  have p := cpos h.1
  have p' : (a.2 : Rat) ≠ 0 := by grind
  have e2 : ((a.1 * D : Int) : Rat) = ((z * a.2 : Int) : Rat) := by
    rw [Rat.intCast_mul, Rat.intCast_mul, ← e]
    unfold vl
    grind
  have e3 : a.1 * D = z * a.2 := Rat.intCast_inj.mp e2
  have d : a.2 ∣ a.1 * D := ⟨z, by rw [e3, Int.mul_comm]⟩
  have d2 := Int.natAbs_dvd_natAbs.mpr d
  rw [Int.natAbs_mul] at d2
  have c : Nat.Coprime a.2.natAbs a.1.natAbs := by
    have := h.2
    unfold Int.gcd at this
    rw [Nat.gcd_comm] at this
    exact this
  exact Int.natAbs_dvd_natAbs.mp (c.dvd_of_dvd_mul_left d2)
theorem Sm.dvd {D B : Nat} {a : F} (h : Sm D B a) : a.2 ∣ (D : Int) := by
  obtain ⟨z, e⟩ := h.int
  exact den_dvd h.nrm e
theorem num_le {a : F} {B : Nat} (h : Nrm a) (l : -(B : Int) ≤ vl a) (u : vl a ≤ (B : Int)) : a.1.natAbs ≤ B * a.2.natAbs := by
  have p := cpos h.1
  have e : (a.1 : Rat) = vl a * a.2 := by
    unfold vl
    grind
  have u1 : ((a.1 : Int) : Rat) ≤ (((B : Int) * a.2 : Int) : Rat) := by
    rw [Rat.intCast_mul, e]
    exact Rat.mul_le_mul_of_nonneg_right u (by grind)
  have l1 : ((-((B : Int) * a.2) : Int) : Rat) ≤ ((a.1 : Int) : Rat) := by
    rw [Rat.intCast_neg, Rat.intCast_mul, e]
    have := Rat.mul_le_mul_of_nonneg_right (c := (a.2 : Rat)) l (by grind)
    grind
  have u2 := Rat.intCast_le_intCast.mp u1
  have l2 := Rat.intCast_le_intCast.mp l1
  have z : ((B * a.2.natAbs : Nat) : Int) = (B : Int) * a.2 := by
    rw [Int.natCast_mul]
    congr 1
    have := h.1
    omega
  omega
theorem Sm.sz {D B k : Nat} {a : F} (h : Sm D B a) (hD : 0 < D) (hk : D < 2 ^ k) (hb : B * D < 2 ^ k) : Sz k a := by
  have d := Int.natAbs_dvd_natAbs.mpr h.dvd
  rw [Int.natAbs_natCast] at d
  have le := Nat.le_of_dvd hD d
  have n := num_le h.nrm h.lo h.hi
  exact ⟨Nat.lt_of_le_of_lt (Nat.le_trans n (Nat.mul_le_mul_left B le)) hb, Nat.lt_of_le_of_lt le hk⟩
theorem Sm.mono {D B E C : Nat} {a : F} (h : Sm D B a) (hd : D ∣ E) (hb : B ≤ C) : Sm E C a := by
  obtain ⟨k, rfl⟩ := hd
  obtain ⟨z, e⟩ := h.int
  have c : ((B : Int) : Rat) ≤ ((C : Int) : Rat) := Rat.intCast_le_intCast.mpr (by omega)
  have l := h.lo
  have u := h.hi
  refine ⟨h.nrm, ⟨z * k, ?_⟩, by grind, by grind⟩
  rw [Rat.intCast_mul, ← e, Int.natCast_mul, Rat.intCast_mul]
  grind
theorem Sm.up {D B C : Nat} {a : F} (h : Sm D B a) (hb : B ≤ C) : Sm D C a := h.mono (Nat.dvd_refl D) hb
theorem Sm.plus {D A B : Nat} {a b : F} (ha : Sm D A a) (hb : Sm D B b) : Sm D (A + B) (plusM a b) := by
  obtain ⟨x, e⟩ := ha.int
  obtain ⟨y, f⟩ := hb.int
  have l1 := ha.lo
  have u1 := ha.hi
  have l2 := hb.lo
  have u2 := hb.hi
  have v := vl_plus ha.nrm hb.nrm
  have c : (((A + B : Nat) : Int) : Rat) = ((A : Int) : Rat) + ((B : Int) : Rat) := by rw [Int.natCast_add, Rat.intCast_add]
  refine ⟨plus_nrm ha.nrm hb.nrm, ⟨x + y, ?_⟩, ?_, ?_⟩
  · rw [v, Rat.intCast_add, ← e, ← f]
    grind
  · rw [v, c]; grind
  · rw [v, c]; grind
theorem Sm.minus {D A B : Nat} {a b : F} (ha : Sm D A a) (hb : Sm D B b) : Sm D (A + B) (minusM a b) := by
  obtain ⟨x, e⟩ := ha.int
  obtain ⟨y, f⟩ := hb.int
  have l1 := ha.lo
  have u1 := ha.hi
  have l2 := hb.lo
  have u2 := hb.hi
  have v := vl_minus ha.nrm hb.nrm
  have c : (((A + B : Nat) : Int) : Rat) = ((A : Int) : Rat) + ((B : Int) : Rat) := by rw [Int.natCast_add, Rat.intCast_add]
  refine ⟨minus_nrm ha.nrm hb.nrm, ⟨x - y, ?_⟩, ?_, ?_⟩
  · rw [v, Rat.intCast_sub, ← e, ← f]
    grind
  · rw [v, c]; grind
  · rw [v, c]; grind
/-- told by its value -/
theorem Sm.of {D B : Nat} {a b : F} (h : Sm D B a) (hb : Nrm b) (e : vl b = vl a) : Sm D B b := by
  rw [vl_inj hb h.nrm e]
  exact h
theorem Sm.lf {D B : Nat} {x y : Int} (hy : 0 < y) (hd : y ∣ (D : Int)) (hb : x.natAbs ≤ B * y.natAbs) : Sm D B (lf x y) := by
  have v := vl_lf (n := x) (d := y) (by omega)
  have p := cpos hy
  have p' : (y : Rat) ≠ 0 := by grind
  obtain ⟨k, ek⟩ := hd
  refine ⟨lf_nrm (by omega), ⟨x * k, ?_⟩, ?_, ?_⟩
  · rw [v, ek, Rat.intCast_mul, Rat.intCast_mul]
    grind
  · rw [v]
    have z : ((-((B : Int) * y) : Int) : Rat) ≤ ((x : Int) : Rat) := Rat.intCast_le_intCast.mpr (by
      have : ((B * y.natAbs : Nat) : Int) = (B : Int) * y := by
        rw [Int.natCast_mul]
        congr 1
        omega
      omega)
    rw [Rat.intCast_neg, Rat.intCast_mul] at z
    refine (le_div_pos p).mpr ?_
    grind
  · rw [v]
    have z : ((x : Int) : Rat) ≤ (((B : Int) * y : Int) : Rat) := Rat.intCast_le_intCast.mpr (by
      have : ((B * y.natAbs : Nat) : Int) = (B : Int) * y := by
        rw [Int.natCast_mul]
        congr 1
        omega
      omega)
    rw [Rat.intCast_mul] at z
    refine (div_le_pos p).mpr ?_
    grind
end FR
/-! Limits on differences: rounds of lowering, the most that a difference can be. Plain Lean. -/
namespace PM
abbrev Ed := Int × Int × Int
def put (p : Int → Int) (b v : Int) : Int → Int := fun x => if x = b then v else p x
def viol (p : Int → Int) (e : Ed) : Bool := decide (p e.1 + e.2.2 < p e.2.1)
def rx (p : Int → Int) (e : Ed) : Int → Int := if viol p e = true then put p e.2.1 (p e.1 + e.2.2) else p
def calm : List Ed → (Int → Int) → Bool
  | [], _ => true
  | e :: es, p => !viol p e && calm es (rx p e)
/-! ### sums and counts over names -/
/-! ### the most that a difference can be: one start, names found one after another -/
/-! ### fixed ones: each to the next, or each to each -/
/-! ### groups: joined one after another, or lowered in rounds -/
def mrg (c : Int → Int) (l : Int × Int) : Int → Int := fun x => if c x = c l.2 then c l.1 else c x
def cls (ls : List (Int × Int)) (c : Int → Int) : Int → Int := ls.foldl mrg c
/-! ### the groups as lists -/
def grp (ns : List Int) (c : Int → Int) (x : Int) : List Int := ns.filter fun y => decide (c y = c x)
/-- the least of a name's group -/
def lst (ns : List Int) (c : Int → Int) (x : Int) : Int := if x ∈ ns then (grp ns c x).headD 0 else x
end PM
set_option maxHeartbeats 1000000
/-! dicts whose keys are tuples of tuples -/
namespace TN
open PySem PySem.Spec PyProof.Rows L2
/-- an entry: its key, the place of the key's tuple, its value -/
abbrev Ent := NestedKey × Addr × V
abbrev Raw3 := NestedKey × Addr × Value
abbrev RelE (e : Ent) (x : Raw3) : Prop := e.1 = x.1 ∧ e.2.1 = x.2.1 ∧ RelV e.2.2 x.2.2
def Holds (P : Program) (w : World) (a : Addr) (es : List Ent) (h : Heap) : Prop := (a == sysModules) = false ∧ ∃ ys : List Raw3, Paired RelE es ys ∧
  ∃ o ds ep, h.get? a = some o ∧ o.ExactDict ∧ o.data = .dict ds ep ∧ ds.toList = ys.map (entryOfKey (nestedKind P w)) ∧ (ys.map (·.1)).Nodup
/-! ### readings -/
end TN
/-! dicts keyed by tuples: a key stored again; one's own read -/
namespace PL
open PySem PySem.Spec PyProof.Rows L2
end PL
/-! dicts whose keys are tuples of tuples, over data -/
namespace PL
open PySem PySem.Spec PyProof.Rows L2
end PL
namespace PL
open PySem PySem.Spec PyProof.Rows L2 FR
/-! ### zip of three lists, the last one the shortest -/
end PL
namespace PL
open PySem PySem.Spec PyProof.Rows L2 FR GX PX RZ
end PL
set_option maxHeartbeats 1000000
/-! tuples: xs[::-1], xs[:-1] -/
namespace L2
open PySem PySem.Spec PyProof.Rows HT
end L2
namespace PL
open PySem PySem.Spec PyProof.Rows L2
end PL
/-! generators in any, all over whatever is walked -/
namespace PL
open PySem PySem.Spec PyProof.Rows L2 FR GX PX RZ
end PL
set_option maxHeartbeats 1000000
/-! {e: f for a in s for b in t}, the keys being tuples -/
/-! {e: f for a in s for b in t}, the keys being tuples, over data -/
namespace PL
open PySem PySem.Spec PyProof.Rows L2
end PL
/-! objects of the program's own classes, over data -/
namespace OB
open PySem PySem.Spec PyProof.Rows L2
theorem pe_fldK {X : Cx} {K : PySem.W.Frag} {e : Expr} {ta : TE} {f : Str} {pos : Pos} (hK : X.K = K) (he : PE X e ta) (hb : attributeBase e f X.env (eval e X.env) = eval e X.env) : PE X (.Attribute e f pos) (tFld K ta f) := hK ▸ pe_fld he hb
end OB
namespace PL
open PySem PySem.Spec PyProof.Rows L2
variable [Nm]
abbrev FS := List (Str × Dat)
/-- an object's fields as data -/
def FsAll (K : PySem.W.Frag) (G : Hp) (us : List (Str × V)) (fs : FS) : Prop := us.map (·.1) = fs.map (·.1) ∧ DvAll K G (us.map (·.2)) (fs.map (·.2))
def setFd (f : Str) (d : Dat) : FS → FS
  | [] => [(f, d)]
  | (g, e) :: r => if g = f then (g, d) :: r else (g, e) :: setFd f d r
section
variable {K : PySem.W.Frag} {G H G1 H1 G2 H2 H' : Hp} {ρ ρ1 : Rho} {I J L : Asn} {ta tb te : TE} {tr : TA} {d : Dat} {k : Out} {us : TS} {C a q : Addr} {fs : FS} {f m : Str}
theorem fs_nil {G : Hp} : FsAll K G [] [] := ⟨rfl, trivial⟩
theorem fs_mono {us : List (Str × V)} (s : Same G H) (h : FsAll K G us fs) : FsAll K H us fs := ⟨h.1, dva_mono s h.2⟩
theorem fs_len {us : List (Str × V)} (h : FsAll K G us fs) : us.length = fs.length := by
  have := congrArg List.length h.1
  simpa using this
theorem fs_look : ∀ {us : List (Str × V)} {fs : FS}, FsAll K G us fs → (fs.lookup f = none → us.lookup f = none) ∧ ∀ d, fs.lookup f = some d → ∃ v, us.lookup f = some v ∧ Dv K G v d
  | [], [], _ => ⟨fun _ => rfl, fun _ h => by cases h⟩
  | [], _ :: _, h => by cases h.1
  | _ :: _, [], h => by cases h.1
  | (g, v) :: us, (g2, e) :: fs, h => by
    obtain ⟨h1, h2⟩ := h
    have e1 : g = g2 ∧ us.map (·.1) = fs.map (·.1) := by simpa using h1
    obtain ⟨rfl, e2⟩ := e1
    have ih := fs_look (us := us) (fs := fs) ⟨e2, h2.2⟩
    rw [List.lookup_cons, List.lookup_cons]
    by_cases c : f = g
    · have cc : (f == g) = true := by simpa using c
      rw [cc]
      refine ⟨fun z => (by cases z), fun z hz => ?_⟩
      obtain rfl : e = z := Option.some.inj hz
      exact ⟨v, rfl, h2.1⟩
    · have cc : (f == g) = false := by simpa using c
      rw [cc]
      exact ih
theorem fs_put {v : V} (hv : Dv K G v d) : ∀ {us : List (Str × V)} {fs : FS}, FsAll K G us fs → FsAll K G (putF f v us) (setFd f d fs)
  | [], [], _ => ⟨rfl, hv, trivial⟩
  | [], _ :: _, h => by cases h.1
  | _ :: _, [], h => by cases h.1
  | (g, w) :: us, (g2, e) :: fs, h => by
    obtain ⟨h1, h2⟩ := h
    have e1 : g = g2 ∧ us.map (·.1) = fs.map (·.1) := by simpa using h1
    obtain ⟨rfl, e2⟩ := e1
    have ih := fs_put hv (us := us) (fs := fs) ⟨e2, h2.2⟩
    show FsAll K G (if g = f then _ else _) (if g = f then _ else _)
    by_cases c : g = f
    · rw [if_pos c, if_pos c]
      exact ⟨by simpa using e2, hv, h2.2⟩
    · rw [if_neg c, if_neg c]
      exact ⟨by simpa using ih.1, h2.1, ih.2⟩
/-! ### objects that stand -/
/-! ### an object of one's own -/
def oA (K : PySem.W.Frag) (C q : Addr) (fs : FS) : Asn := ⟨(· = q), fun G H => G q = none ∧ ∃ dx us, H q = some (.ins C dx us) ∧ FsAll K G us fs, fun M G H G2 H2 n s ⟨g, dx, us, h, r⟩ => ⟨s.fr q _ (n q rfl) h g, dx, us, s.hh q _ (n q rfl) h, fs_mono s.gg r⟩, fun G H a ⟨_, dx, us, h, _⟩ (z : a = q) => ⟨.ins C dx us, by rw [z]; exact h⟩⟩
abbrev oJ (K : PySem.W.Frag) (C q : Addr) (fs : FS) (J : Asn) : Asn := (oA K C q fs).and J
instance {T : Tbs} [h : HasT T J] : HasT T (oJ K C q fs J) := ⟨fun G H z => h.get G H z.2⟩
/-! ### __init__ and C(..) -/
end
end PL
set_option maxHeartbeats 1000000
/-! a lambda with one parameter and captured names, handed to a def that calls it -/
namespace CLO
open PySem PySem.Spec PyProof.Rows L2 LamX LM
/-- its names: the parameter a, captured ones and globals -/
structure LamS1 (a : Str) (sc scope : Scope) : Prop where
  kind : scope.kind = .function
  co : scope.isCoroutine = false
  gen : scope.isGenerator = false
  par : scope.names.lookup a = some .local
  own : ∀ y ∈ scope.names, (y.2 = .local → y.1 = a) ∧ y.2 ≠ .cell
  free : ∀ y ∈ scope.names, y.2 = .free → sc.names.lookup y.1 = some .cell ∨ sc.names.lookup y.1 = some .free
def lamS1B (a : Str) (sc scope : Scope) : Bool :=
  decide (scope.kind = .function) && !scope.isCoroutine && !scope.isGenerator && decide (scope.names.lookup a = some .local) && scope.names.all fun y => (!decide (y.2 = .local) || decide (y.1 = a)) && !decide (y.2 = .cell) && (!decide (y.2 = .free) || decide (sc.names.lookup y.1 = some .cell) || decide (sc.names.lookup y.1 = some .free))
theorem lamS1_by {a : Str} {sc scope : Scope} (h : lamS1B a sc scope = true) : LamS1 a sc scope := by
  unfold lamS1B at h
  simp only [Bool.and_eq_true, Bool.or_eq_true, Bool.not_eq_true', decide_eq_true_eq, decide_eq_false_iff_not, List.all_eq_true] at h
  obtain ⟨⟨⟨⟨h1, h2⟩, h3⟩, h5⟩, h4⟩ := h
  refine ⟨h1, h2, h3, h5, fun y hy => ⟨fun e => ((h4 y hy).1.1).elim (fun z => absurd e z) id, (h4 y hy).1.2⟩, fun y hy e => ?_⟩
  rcases (h4 y hy).2 with (z | z) | z
  · exact absurd e z
  · exact .inl z
  · exact .inr z
theorem LamS1.has {a : Str} {X : Cx} {scope : Scope} (L : LamS1 a X.env.scope scope) (ok : X.Ok) : ∀ y ∈ scope.names, y.2 = .free → ∃ c, X.env.cells.lookup y.1 = some c := fun y hy e => by
  rcases L.free y hy e with k | k
  · exact ok.has _ (.inl k)
  · exact ok.has _ (.inr k)
section
variable {X : Cx} {pins : List (Addr × Obj)} {σ : L2.St} {H HZ : Hp} {s s1 : Shared}
/-- the lambda stands -/
theorem lam_newC {c P : Addr} {params : Arguments} {body : Expr} {sc : Scope} {pos : Pos} {E : Value → Shared → Prop} {Q : Value → Shared → Prop} (I : Inv X pins σ H s) (B : TabB X.base X.mg c P) (hcd : X.env.code = .ref c) (ht : TabS H P (X.env.qual ++ "<lambda>")) (hd : defaultsOf params X.env = ([], [])) (hfree : ∀ y ∈ sc.names, y.2 = .free → ∃ c, X.env.cells.lookup y.1 = some c)
    (done : ∀ (f c' : Addr) (pm ctv : Value) (H1 : Hp) (s1 : Shared), Inv X pins σ H1 s1 → Lm P (X.env.qual ++ "<lambda>") H H1 → s1.heap.get? f = some (PySem.W.kla_obj "<lambda>" (X.env.qual ++ "<lambda>") params body sc (cloFrom X.env.cells sc.names []) pm c' ctv) →
      H1 f = none → f ∉ frs X.stack → H1 c' = some (CodeO c' (X.env.qual ++ "<lambda>")) → Q (.ref f) s1) : wpAny (model X.prog X.w) X.A (eval (.Lambda params body sc pos) X.env) Q E s := by
  obtain ⟨ps, hP, tr, all⟩ := ht
  have clo : closureFor sc X.env = pure (cloFrom X.env.cells sc.names []) := closure_ok hfree
  have sP := I.hok P _ hP
  have bP := B.bm.keeps I.bk
  have gl := I.mod.glob.keeps I.bk
  have nofr : ∀ f, s.heap.objs.size ≤ f → f ∉ frs X.stack := fun f hf z => by
    rcases List.mem_cons.mp (I.stkSub _ z) with e | e
    · have h1 := I.lt
      rw [← e] at h1
      exact Nat.lt_irrefl _ (Nat.lt_of_lt_of_le h1 hf)
    · exact I.nofs hf e
  refine PySem.W.kla_eval hd ?_
  rcases hz : codeAmong pos ps.toList with _ | cv
  · refine PySem.W.kla_makeFunction (mg := X.mg) (c := c) (P := P) (ps := ps) clo I.ok.glob gl hcd (B.code.keeps I.bk) sP tr hz B.gP bP fun c' ctv h1 tk eb le lt rec tb => ?_
    obtain ⟨c2, oc, vs, t, e2, e3, e4, e5⟩ := rec
    cases e2
    have nc : H c' = none := I.hok.fresh le
    have nPc : P ≠ c' := fun z => by
      rw [← z, hP] at nc
      cases nc
    have hsz : s.heap.objs.size ≤ h1.objs.size := Nat.le_trans le (Nat.le_of_lt lt)
    have J := inv_table (q := X.env.qual ++ "<lambda>") (t' := tk) (more := #[rawInt pos.line, rawInt pos.col, .ref c']) (h' := h1.push (PySem.W.kla_obj "<lambda>" (X.env.qual ++ "<lambda>") params body sc (cloFrom X.env.cells sc.names []) ((X.mg "__name__").getD .none) c' ctv)) I hP
      (fun b o nb e => Heap.get?_push_of_some _ (eb b o nb e)) (Heap.get?_push_of_some _ tb) le ⟨oc, vs, t, Heap.get?_push_of_some _ e3, e4, e5⟩
    refine done _ c' _ ctv _ _ J ⟨fun b o nb e => ?_, ⟨ps ++ #[rawInt pos.line, rawInt pos.col, .ref c'], ?_, ?_, fun p2 cv hcv => ?_⟩⟩ (Heap.get?_push_size _ rfl) ?_ (nofr _ hsz) upd_same
    · have nb2 : b ≠ c' := fun z => by
        rw [z, nc] at e
        cases e
      rw [upd_ne nb2, upd_ne nb]
      exact e
    · rw [upd_ne nPc, upd_same]
    · rw [show (ps ++ #[rawInt pos.line, rawInt pos.col, .ref c']).toList = ps.toList ++ [rawInt pos.line, rawInt pos.col, .ref c'] by simp]
      exact PySem.TriplesOk_snoc _ _ _ _ tr
    · rw [show (ps ++ #[rawInt pos.line, rawInt pos.col, .ref c']).toList = ps.toList ++ [rawInt pos.line, rawInt pos.col, .ref c'] by simp] at hcv
      rcases among_app _ tr hcv with z | z
      · obtain ⟨c0, q1, q2⟩ := all p2 cv z
        have n0 : c0 ≠ c' := fun y => by
          rw [y, nc] at q2
          cases q2
        have n1 : c0 ≠ P := fun y => by
          rw [y, hP] at q2
          exact codeO_ne ps (Option.some.inj q2).symm
        exact ⟨c0, q1, by rw [upd_ne n0, upd_ne n1]; exact q2⟩
      · exact ⟨c', z, upd_same⟩
    · have n1 : h1.objs.size ≠ c' := Nat.ne_of_gt lt
      have n2 : h1.objs.size ≠ P := Nat.ne_of_gt (Nat.lt_of_lt_of_le (Heap.lt_size sP) hsz)
      rw [upd_ne n1, upd_ne n2]
      exact I.hok.fresh hsz
  · obtain ⟨c', rfl, q2⟩ := all pos cv hz
    refine PySem.W.kla_makeFunctionHit (mg := X.mg) (c := c) (P := P) (ps := ps) clo I.ok.glob gl hcd (B.code.keeps I.bk) sP tr hz bP fun ctv h1 tk eb le => ?_
    have J : Inv X pins σ H { s with heap := h1.push (PySem.W.kla_obj "<lambda>" (X.env.qual ++ "<lambda>") params body sc (cloFrom X.env.cells sc.names []) ((X.mg "__name__").getD .none) c' ctv), toks := tk } := I.kept fun b o e => Heap.get?_push_of_some _ (eb b o e)
    exact done _ c' _ ctv H _ J ⟨fun _ _ _ h => h, ⟨ps, hP, tr, all⟩⟩ (Heap.get?_push_size _ rfl) (I.hok.fresh le) (nofr _ le) q2
theorem lam1_start {A : Around} {outer : List Env} {E : XK} {scope : Scope} {f c' : Addr} {h₁ : Heap} {tk : Nat} {a : Str} {i : Nat} {v : V} {u : Value} (I : Inv X pins σ H s) (L : LamS1 a X.env.scope scope) (hN : X.N[i]? = some a) (nd : X.N.Nodup) (rv : L2.RelV v u) (e0 : Env0 X.prog X.w X.K X.mg X.base A outer s1 HZ) (hd : A.handled = none)
    (un : Un (frs X.stack) [] H HZ s.heap s1.heap) (hns : h₁.Ns s1.heap.objs.size fun y => ([(a, u)] : List (Str × Value)).reverse.lookup y) (kp : ∀ b o, s1.heap.get? b = some o → h₁.get? b = some o) :
    Inv (lamCx X A outer s1 HZ E scope f c') [] (σ.set i (some v)) HZ { s1 with heap := h₁, toks := tk } := by
  have hfree := L.has I.ok
  have cm : ∀ {y c}, (cloFrom X.env.cells scope.names []).lookup y = some c → X.env.cells.lookup y = some c := fun {y c} e => by
    rcases cloFrom_mem (PySem.mem_of_lookup e) with hm | ⟨h1, h2⟩
    · cases hm
    · obtain ⟨c1, hc⟩ := hfree _ h1 rfl
      have hc : X.env.cells.lookup y = some c1 := hc
      have e2 : c = c1 := by
        rw [h2, hc] <;> rfl
      rw [e2]
      exact hc
  have look : ∀ {y}, scope.names.lookup y = some .free → ∃ c, (cloFrom X.env.cells scope.names []).lookup y = some c := fun {y} hl => by
    have hy : (y, NameKind.free) ∈ scope.names := PySem.mem_of_lookup hl
    exact mem_lookup (cloFrom_has (cells := X.env.cells) (acc := []) hy)
  have cellK : ∀ {c : Addr} {v : Option Value}, H c = none → s.heap.IsCell c v → h₁.IsCell c v := fun {c v} n ⟨o, ho, hd⟩ => by
    obtain ⟨sl, q⟩ := un.any ho n (by simp)
    exact ⟨_, kp _ _ q, hd⟩
  have noA : ∀ b : Addr, b ∉ (lamCx X A outer s1 HZ E scope f c').ex := fun b z => absurd (show b ∈ ([] : List Addr) from z) (by simp)
  refine ⟨⟨e0.mod, L.kind, rfl, rfl, Nat.le_refl _, fun y z c e1 e2 => I.ok.inj y z c (cm e1) (cm e2), fun y hy => ?_, fun y c z _ => ?_, fun _ => hd, Around.frames_deeper e0.frames, .inr ⟨rfl, rfl⟩, fun b z => absurd z (noA b), e0.bs, e0.bsz, fun b _ _ => noA b,
      fun b z => absurd z (noA b), e0.funs, e0.frf⟩,
    rfl, e0.bare, Un.kept kp, ⟨_, hns, fun j y w e1 e2 e3 => ?_⟩, fun y c e => ?_, e0.hok.fresh (Nat.le_refl _), fun y c e => ?_, fun q hq => absurd (show q ∈ ([] : List (Addr × Obj)) ++ [] from hq) (by simp), e0.hok.kept kp, by rw [List.length_set]; exact I.len⟩
  · have hy : scope.names.lookup y = some .cell ∨ scope.names.lookup y = some .free := hy
    rcases hy with hy | hy
    · exact absurd rfl (L.own _ (PySem.mem_of_lookup hy)).2
    · exact look hy
  · have z : false = true := z
    cases z
  · have e3 : Vis scope y := e3
    rcases e3 with k | k | k
    · have ya : y = a := (L.own _ (PySem.mem_of_lookup k)).1 rfl
      subst ya
      have ji : j = i := by
        have hj : j < X.N.length := (List.getElem?_eq_some_iff.mp e1).1
        have e1' : X.N[j]? = some y := e1
        exact (List.getElem?_inj hj nd).mp (e1'.trans hN.symm)
      subst ji
      have wv : w = v := by
        rw [List.getElem?_set] at e2
        have hl : j < σ.length := by
          rw [I.len]
          exact (List.getElem?_eq_some_iff.mp hN).1
        rw [if_pos rfl, if_pos hl] at e2
        exact (Option.some.inj (Option.some.inj e2)).symm
      subst wv
      refine ⟨u, rv, .inl ⟨k, ?_⟩⟩
      simp [List.lookup]
    · exact absurd rfl (L.own _ (PySem.mem_of_lookup k)).2
    · have nij : i ≠ j := fun z => by
        subst z
        have e1' : X.N[i]? = some y := e1
        rw [hN] at e1'
        have := Option.some.inj e1'
        rw [← this] at k
        have hp := L.par
        rw [k] at hp
        cases hp
      rw [List.getElem?_set_ne nij] at e2
      obtain ⟨m, hn, hl⟩ := I.loc
      have hvis : Vis X.env.scope y := (L.free _ (PySem.mem_of_lookup k) rfl).elim (fun k => .inr (.inl k)) (fun k => .inr (.inr k))
      obtain ⟨w', r, q⟩ := hl j y w e1 e2 hvis
      obtain ⟨c2, h2⟩ := look k
      refine ⟨w', r, .inr ⟨.inr k, c2, h2, ?_⟩⟩
      have c1 := cm h2
      rcases q with ⟨k', _⟩ | ⟨_, c3, e', z⟩
      · have k' : X.env.scope.names.lookup y = some .local := k'
        rcases L.free _ (PySem.mem_of_lookup k) rfl with k2 | k2 <;> rw [show X.env.scope.names.lookup y = _ from k2] at k' <;> cases k'
      · rw [c1] at e'
        cases e'
        exact cellK (I.freeC y _ c1) z
  · obtain ⟨w', z⟩ := I.cell y c (cm e)
    exact ⟨w', cellK (I.freeC y c (cm e)) z⟩
  · obtain ⟨v, o, ho, hd⟩ := I.cell y c (cm e)
    exact un.free c o ho (I.freeC y c (cm e)) (by simp)
/-- what a call of the lambda at f asks: te the argument -/
def tMs (i : Nat) (f c' : Addr) (q : Str) (te : TE) (tl : V → Hp → VK → Prop) : TE := fun σ H Q => te σ H fun v H1 => σ[i]? = some (some (.ref f)) ∧ H1 c' = some (CodeO c' q) ∧ tl v H1 Q
/-- a(e), in the def that got the lambda: it is entered at s -/
theorem pe_act1 {CXg : CXT} {Eg : XK} {Ng : List Str} {qg : Str} {sg : Scope} {g f c' : Addr} {cdg pm ctv : Value} {params : Arguments} {body : Expr} {scope : Scope} {k i ia : Nat} {m a : Str} {tb te : TE} {p1 p2 : Pos} {e : Expr}
    (I : Inv X pins σ H s) (L : LamS1 a X.env.scope scope) (hNa : X.N[ia]? = some a) (nd : X.N.Nodup) (hf : s.heap.get? f = some (PySem.W.kla_obj "<lambda>" (X.env.qual ++ "<lambda>") params body scope (cloFrom X.env.cells scope.names []) pm c' ctv)) (hfn : H f = none) (hfr : f ∉ frs X.stack)
    (hbind : ∀ u : Value, bindArgs (PySem.W.kla_fn "<lambda>" (X.env.qual ++ "<lambda>") params body scope (cloFrom X.env.cells scope.names []) pm (.ref c') ctv) ⟨[u], []⟩ = pure [(a, u)])
    (hr : Room (k + 1) (X.A.deeper (envOfC qg sg s.heap.objs.size g cdg)))
    (hbody : ∀ (A : Around) (outer : List Env) (s : Shared) (H : Hp), Room k (A.deeper (lamEnv X scope s.heap.objs.size f c')) → PE (lamCx X A outer s H C8.E0 scope f c').nox body tb)
    (hN : Ng[i]? = some m) (hv : Vis sg m) (ha : PA (cxOf CXg X.prog X.w X.K X.mg X.base Ng qg sg g cdg X.A X.stack s H Eg).nox [e] (tCons te tNil)) (hd : (m == ("__debug__" : Str)) = false := by decide) (hcd : (m == ("__classdict__" : Str)) = false := by decide)
    (he : starEach [e] (cxOf CXg X.prog X.w X.K X.mg X.base Ng qg sg g cdg X.A X.stack s H Eg).nox.env = (false, eval e (cxOf CXg X.prog X.w X.K X.mg X.base Ng qg sg g cdg X.A X.stack s H Eg).nox.env) :: starEach [] (cxOf CXg X.prog X.w X.K X.mg X.base Ng qg sg g cdg X.A X.stack s H Eg).nox.env := by rfl) (hpl : (backTo p2 (starEach [] (cxOf CXg X.prog X.w X.K X.mg X.base Ng qg sg g cdg X.A X.stack s H Eg).nox.env)).any (·.1) = false := by rfl) :
    PE (cxOf CXg X.prog X.w X.K X.mg X.base Ng qg sg g cdg X.A X.stack s H Eg).nox (.Call (.Name m p1) [e] [] p2)
      (fun σZ HZ Q => σZ[i]? = some (some (.ref f)) ∧ tMs i f c' (X.env.qual ++ "<lambda>") te (fun v H1 Q1 => tb (σ.set ia (some v)) H1 Q1) σZ HZ Q) := by
  refine ⟨fun pinsZ sZ σZ HZ Q IZ h => ?_⟩
  obtain ⟨hs, ht⟩ := h
  refine wpAny_Call_Name_kw (thn ((pe_var (pos := p1) (i := i) hN hv hd hcd).run pinsZ sZ σZ HZ (fun v H1 => v = .ref f ∧ H1 = HZ) IZ ⟨.ref f, hs, rfl, rfl⟩) fun u s1 ⟨v, H1, I1, r1, q1⟩ => ?_)
  obtain ⟨ev, eH⟩ := q1
  subst ev
  rw [eH] at I1
  obtain rfl : u = Value.ref f := r1
  have ofI : ∀ {H1 : Hp} {s1 : Shared}, Inv (cxOf CXg X.prog X.w X.K X.mg X.base Ng qg sg g cdg X.A X.stack s H Eg).nox pinsZ σZ H1 s1 → s1.heap.get? f = some (PySem.W.kla_obj "<lambda>" (X.env.qual ++ "<lambda>") params body scope (cloFrom X.env.cells scope.names []) pm c' ctv) := fun I1 => I1.base.keep f _ hf hfn hfr (fun z => nomatch (show f ∈ ([] : List Addr) from z))
  refine PySem.W.callWith_F (first := []) ⟨_, _, _, _, ofI I1⟩ (thn (ha.run p2 pinsZ s1 σZ HZ (fun us H1 => ∃ v, us = [v] ∧ σZ[i]? = some (some (.ref f)) ∧ H1 c' = some (CodeO c' (X.env.qual ++ "<lambda>")) ∧ tb (σ.set ia (some v)) H1 Q) I1 ?_) fun us s2 ⟨vs, H2, I2, r, q⟩ => ⟨⟨_, _, _, _, ofI I2⟩, ?_⟩) he hpl
  · have ht : te σZ HZ fun v H1 => σZ[i]? = some (some (.ref f)) ∧ H1 c' = some (CodeO c' (X.env.qual ++ "<lambda>")) ∧ tb (σ.set ia (some v)) H1 Q := ht
    have ee : (fun v H1 => tNil σZ H1 fun xs H2 => (fun (us : List V) (H1 : Hp) => ∃ v, us = [v] ∧ σZ[i]? = some (some (.ref f)) ∧ H1 c' = some (CodeO c' (X.env.qual ++ "<lambda>")) ∧ tb (σ.set ia (some v)) H1 Q) (v :: xs) H2) = fun v H1 => σZ[i]? = some (some (.ref f)) ∧ H1 c' = some (CodeO c' (X.env.qual ++ "<lambda>")) ∧ tb (σ.set ia (some v)) H1 Q := by
      funext v H1
      refine propext ⟨fun ⟨v2, e2, z⟩ => ?_, fun z => ⟨v, rfl, z⟩⟩
      obtain rfl : v = v2 := by simpa using e2
      exact z
    show te σZ HZ (fun v H1 => tNil σZ H1 fun xs H2 => (fun (us : List V) (H1 : Hp) => ∃ v, us = [v] ∧ σZ[i]? = some (some (.ref f)) ∧ H1 c' = some (CodeO c' (X.env.qual ++ "<lambda>")) ∧ tb (σ.set ia (some v)) H1 Q) (v :: xs) H2)
    rw [ee]
    exact ht
  obtain ⟨v, rfl, _, hc, ht⟩ := q
  obtain ⟨u, rfl, rv⟩ : ∃ u, us = [u] ∧ L2.RelV v u := by
    cases r with
    | cons p q =>
      cases q
      exact ⟨_, rfl, p⟩
  have of2 := ofI I2
  have un : Un (frs X.stack) [] H H2 s.heap s2.heap := I2.base
  obtain ⟨⟨oc, vs, t, hoc, hdc, hvc⟩, _, _⟩ := I2.hok c' _ hc
  show wpAny _ _ (call (.ref f) [u]) _ _ _
  have rc : codeAny (model X.prog X.w) (X.A.deeper (envOfC qg sg s.heap.objs.size g cdg)) (.call (.ref f) ⟨[u], []⟩) (CR C8.CX0 (envOfC qg sg s.heap.objs.size g cdg :: X.stack) X.prog X.w H2 s2 Q C8.E0) s2 := by
    refine PySem.W.kla_callFunE hr.depth of2 rfl L.co L.gen rfl ⟨c', oc, vs, t, rfl, hoc, hdc, hvc⟩ ?_
    rw [hbind]
    refine wpAny_pure (wpAny_newFunctionEnv (fun y hy => (L.own y hy).2) (fun y hy => by rw [List.mem_singleton.mp hy]; exact L.par) (fun h₁ hns hsb => ⟨I2.nolimit.fresh _ hsb, ?_⟩) L.kind)
    show codeAny _ _ (.expr body (lamEnv X scope s2.heap.objs.size f c')) _ _
    have kp : ∀ b o, s2.heap.get? b = some o → h₁.get? b = some o := fun b o e => hsb.extBut b o (Nat.ne_of_lt (Heap.lt_size e)) (Heap.get?_push_of_some _ e)
    have J : Inv (lamCx X (X.A.deeper (envOfC qg sg s.heap.objs.size g cdg)) (envOfC qg sg s.heap.objs.size g cdg :: X.stack) s2 H2 C8.E0 scope f c') [] (σ.set ia (some v)) H2 { s2 with heap := h₁, toks := s2.toks + ([(a, u)] : List (Str × Value)).length } :=
      lam1_start I L hNa nd rv I2.env0 hr.hd un hns kp
    refine PySem.W.kla_codeExpr (wpAny_mono ((hbody _ _ s2 H2 (hr.deeper _)).run [] _ _ H2 Q (J.wish _) ht) (fun v s' hq => ?_) fun e s' hq => hq.elim)
    obtain ⟨w', H', J', rv, q⟩ := hq
    exact ⟨w', H', J'.os, J'.bare, J'.base, J'.hok, rv, q⟩
  refine wpAny_call (codeAny_mono rc fun r s' hq => ?_)
  cases r with
  | error e => exact (show False from hq).elim
  | ok fl =>
    cases fl with
    | ret u => exact I2.after hq
    | next => exact False.elim hq
    | brk => exact False.elim hq
    | cont => exact False.elim hq
end
/-- what the def that got the lambda makes of its reading; the lambda is its last argument but for none -/
def Gives1 (X : Cx) (k : Nat) (Ng : List Str) (x : Str) (sg : Scope) (g : Addr) (cdg : Value) (bg : List Stmt) (m : Str) (i : Nat) (q : Str) (TT : V → (V → Hp → VK → Prop) → Hp → VK → Prop) : Prop :=
  ∀ (f c' : Addr) (s : Shared) (H : Hp) (Q : VK) (v1 : V) (tl : V → Hp → VK → Prop), Room k (X.A.deeper (envOfC x sg s.heap.objs.size g cdg)) →
    (∀ (te : TE) (e : Expr) (p1 p2 : Pos), PA (cxOf C8.CX0 X.prog X.w X.K X.mg X.base Ng x sg g cdg X.A X.stack s H C8.E0).nox [e] (tCons te tNil) →
      starEach [e] (cxOf C8.CX0 X.prog X.w X.K X.mg X.base Ng x sg g cdg X.A X.stack s H C8.E0).nox.env = (false, eval e (cxOf C8.CX0 X.prog X.w X.K X.mg X.base Ng x sg g cdg X.A X.stack s H C8.E0).nox.env) :: starEach [] (cxOf C8.CX0 X.prog X.w X.K X.mg X.base Ng x sg g cdg X.A X.stack s H C8.E0).nox.env →
      PE (cxOf C8.CX0 X.prog X.w X.K X.mg X.base Ng x sg g cdg X.A X.stack s H C8.E0).nox (.Call (.Name m p1) [e] [] p2) (fun σZ HZ Q => σZ[i]? = some (some (.ref f)) ∧ tMs i f c' q te tl σZ HZ Q)) →
    H c' = some (CodeO c' q) → TT v1 tl H Q →
    ∃ t, PSs (cxOf C8.CX0 X.prog X.w X.K X.mg X.base Ng x sg g cdg X.A X.stack s H C8.E0).nox bg t ∧ t { nx := fun _ H' => Q .non H', rt := Q } (L2.start Ng [v1, .ref f]) H
/-- .. told without the caller's context -/
def Gives0 (P : Program) (w : World) (K : PySem.W.Frag) (mg : Str → Option Value) (base : Heap) (A : Around) (st : List Env) (k : Nat) (Ng : List Str) (x : Str) (sg : Scope) (g : Addr) (cdg : Value) (bg : List Stmt) (m : Str) (i : Nat) (q : Str) (TT : V → (V → Hp → VK → Prop) → Hp → VK → Prop) : Prop :=
  ∀ (f c' : Addr) (s : Shared) (H : Hp) (Q : VK) (v1 : V) (tl : V → Hp → VK → Prop), Room k (A.deeper (envOfC x sg s.heap.objs.size g cdg)) →
    (∀ (te : TE) (e : Expr) (p1 p2 : Pos), PA (cxOf C8.CX0 P w K mg base Ng x sg g cdg A st s H C8.E0).nox [e] (tCons te tNil) →
      starEach [e] (cxOf C8.CX0 P w K mg base Ng x sg g cdg A st s H C8.E0).nox.env = (false, eval e (cxOf C8.CX0 P w K mg base Ng x sg g cdg A st s H C8.E0).nox.env) :: starEach [] (cxOf C8.CX0 P w K mg base Ng x sg g cdg A st s H C8.E0).nox.env →
      PE (cxOf C8.CX0 P w K mg base Ng x sg g cdg A st s H C8.E0).nox (.Call (.Name m p1) [e] [] p2) (fun σZ HZ Q => σZ[i]? = some (some (.ref f)) ∧ tMs i f c' q te tl σZ HZ Q)) →
    H c' = some (CodeO c' q) → TT v1 tl H Q →
    ∃ t, PSs (cxOf C8.CX0 P w K mg base Ng x sg g cdg A st s H C8.E0).nox bg t ∧ t { nx := fun _ H' => Q .non H', rt := Q } (L2.start Ng [v1, .ref f]) H
theorem gives_of {X : Cx} {k : Nat} {Ng : List Str} {x : Str} {sg : Scope} {g : Addr} {cdg : Value} {bg : List Stmt} {m : Str} {i : Nat} {q : Str} {TT : V → (V → Hp → VK → Prop) → Hp → VK → Prop} (h : Gives0 X.prog X.w X.K X.mg X.base X.A X.stack k Ng x sg g cdg bg m i q TT) : Gives1 X k Ng x sg g cdg bg m i q TT := h
def tLam1 (P : Addr) (q : Str) (ia : Nat) (te tb : TE) (TT : V → (V → Hp → VK → Prop) → Hp → VK → Prop) : TE := fun σ H Q => te σ H fun v1 H1 => TabS H1 P q ∧ ∀ H2, Lm P q H1 H2 → TT v1 (fun v H' Q' => tb (σ.set ia (some v)) H' Q') H2 Q
section
variable {X : Cx}
/-- x(e, lambda a: body) -/
theorem pe_lamcall1 {TT : V → (V → Hp → VK → Prop) → Hp → VK → Prop} {x m a m0 : Str} {g c P : Addr} {k kl ia : Nat} {pg : Arguments} {bg : List Stmt} {sg : Scope} {dV kV doc pm cdv ct oc : Value} {an od : Option Addr} {osl : Array (Option Value)} {Ng : List Str}
    {params : Arguments} {e body : Expr} {scope : Scope} {te tb : TE} {p lpos pos : Pos} (he : PE X e te) (hg : Gl X x) (hm : X.mg x = some (.ref g)) (hk : PySem.W.keepIn X.K (.ref g) = true)
    (lk : X.K.lookup g = some ⟨oc, od, .func (PySem.W.fnOf x x pg bg sg dV kV doc pm an cdv ct), osl⟩) (hcg : PySem.W.codeIn X.K cdv x = true) (hb : L2.Binds X.K (PySem.W.fnOf x x pg bg sg dV kV doc pm an cdv ct) [m0, m] []) (Sg : FnScope Ng [m0, m] sg) (hNg : Ng[1]? = some m) (hva : Vis sg m)
    (hG : Gives1 X k Ng x sg g cdv bg m 1 (X.env.qual ++ "<lambda>") TT)
    (TB : TabB X.base X.mg c P) (hcode : X.env.code = .ref c) (hr : Room (k + 1) X.A) (hkl : kl + 1 ≤ k) (L : LamS1 a X.env.scope scope) (hNa : X.N[ia]? = some a) (nd : X.N.Nodup) (hdef : defaultsOf params X.env = ([], []))
    (hbind : ∀ (q : Str) (cl : List (Str × Addr)) (pm cv ctv u : Value), bindArgs (PySem.W.kla_fn "<lambda>" q params body scope cl pm cv ctv) ⟨[u], []⟩ = pure [(a, u)])
    (hbody : ∀ (A : Around) (outer : List Env) (s : Shared) (H : Hp) (f c' : Addr), Room kl (A.deeper (lamEnv X scope s.heap.objs.size f c')) → PE (lamCx X A outer s H C8.E0 scope f c').nox body tb)
    (hdb : (x == ("__debug__" : Str)) = false := by decide) (hd : (m == ("__debug__" : Str)) = false := by decide) (hcd : (m == ("__classdict__" : Str)) = false := by decide)
    (hst : starEach [e, .Lambda params body scope lpos] X.env = (false, eval e X.env) :: starEach [.Lambda params body scope lpos] X.env := by rfl) :
    PE X (.Call (.Name x p) [e, .Lambda params body scope lpos] [] pos) (tLam1 P (X.env.qual ++ "<lambda>") ia te tb TT) := by
  refine ⟨fun pins s σ H Q I h => ?_⟩
  refine wpAny_Call_Name_kw (ld_glob I hg hm ?_ hdb)
  refine PySem.W.callWith_K (h₀ := X.base) I.ok.mod.kin hk ?_ hst (by rfl)
  rw [hst]
  show wpAny _ _ (spliced ((false, eval e X.env) :: backTo pos (starEach [.Lambda params body scope lpos] X.env))) _ _ s
  refine Calls.spliced_cons (thn (he.run pins s σ H _ I h) fun u1 s1 ⟨v1, H1, I1, r1, hT, h⟩ => ?_)
  show wpAny _ _ (spliced ((false, eval (.Lambda params body scope lpos) X.env) :: backTo pos (starEach [] X.env))) _ _ s1
  refine Calls.spliced_cons (lam_newC I1 TB hcode hT hdef (L.has I1.ok) fun f c' pm' ctv H2 s' I2 lm hf hfn hfr hco => ?_)
  refine Calls.spliced_nil ⟨I2.kIn, ?_⟩
  have rc : codeAny (model X.prog X.w) X.A (.call (.ref g) ⟨[u1, .ref f], []⟩) (CR C8.CX0 X.stack X.prog X.w H2 s' Q C8.E0) s' := by
    refine run_ofS (N := Ng) (ps := [m0, m]) (us := [u1, .ref f]) (vs := [v1, .ref f]) lk hcg Sg hr I2.env0 (hb s' [u1, .ref f] I2.kIn rfl) (.cons r1 (.cons rfl .nil)) rfl fun hr' => ?_
    obtain ⟨t', ht', hq'⟩ := hG f c' s' H2 Q v1 (fun v H' Q' => tb (σ.set ia (some v)) H' Q') hr' (fun te e p1 p2 ha hs => pe_act1 (i := 1) (k := kl) I2 L hNa nd hf hfn hfr (hbind _ _ _ _ _) (hr'.mono hkl) (fun A outer s H hr2 => hbody A outer s H f c' hr2) hNg hva ha hd hcd hs) hco (h H2 lm)
    exact ⟨t', ht'.nox, hq'⟩
  refine wpAny_call (codeAny_mono rc fun r s2 hq => ?_)
  cases r with
  | error e => exact (show False from hq).elim
  | ok fl =>
    cases fl with
    | ret u => exact I2.after hq
    | next => exact False.elim hq
    | brk => exact False.elim hq
    | cont => exact False.elim hq
end
end CLO
set_option maxHeartbeats 1000000
/-! objects that change, told by their methods; functions handed on, over data -/
namespace L2
open PySem PySem.Spec PyProof.Rows
theorem list_extend_tup (l : Addr) (items : Array Value) (n : Nat) (b : Addr) (items2 : Array Value) (n2 : Nat) (od : Option Addr) (sl : Array (Option Value)) (hs0 : ¬(!items.isEmpty && Builtin.List.listTooLong (items.size + items2.size)) = true) (hs1 : items.size ≤ sizeLine) (hs2 : items.size + items2.size ≤ sizeLine + 1) :
    Meets (Builtin.«list.extend» ⟨[.ref l, .ref b], []⟩) (fun _ R s => s.heap.get? l = some { cls := .type "list", dict := none, data := .seq items n, slots := #[] } ∧ s.heap.get? b = some { cls := .type "tuple", dict := od, data := .seq items2 n2, slots := sl } ∧ R (.ok (.ret Value.none)) { s with heap := s.heap.update l (Obj.mapSeq fun x => x ++ items2), toks := s.toks }) :=
  .of_wp fun prog w A R s h => by
    obtain ⟨hp, g, d, tk, os⟩ := s; obtain ⟨hl, hb, h⟩ := h; have f1 := AutoSeq1.idx_int; have f2 := AutoSeq1.sub_tuple_tuple; have f3 := AutoSeq1.sub_list_list; have f4 := AutoSeq1.sub_tuple_list; have f5 := AutoSeq1.sub_list_tuple;
    have hz' : (items ++ items2).size ≤ sizeLine + 1 := by rw [Array.size_append]; exact hs2
    wp_walk using (wpAny_updateSeq hl rfl (hz := hs1) (_hz' := hz')), AutoSeq1.wpAny_loadPart' hl, AutoSeq1.wpAny_loadPart' hb; exact ⟨_, rfl, h⟩
section
variable {X : Cx} {e : Expr} {ta tb : TE}
/-- one of two readings -/
def tOr2 (ta tb : TE) : TE := fun σ H Q => ta σ H Q ∨ tb σ H Q
theorem pe_or2 (ha : PE X e ta) (hb : PE X e tb) : PE X e (tOr2 ta tb) := ⟨fun pins s σ H Q I h => h.elim (ha.run pins s σ H Q I) (hb.run pins s σ H Q I)⟩
def rExtendT (K : PySem.W.Frag) : V → List V → Hp → VK → Prop := fun x vs H Q => ∃ l b xs zs, x = .ref l ∧ vs = [.ref b] ∧ H l = some (.lst xs) ∧ SqT K H b zs ∧ xs.length + zs.length ≤ sizeLine ∧ Q .non (upd H l (.lst (xs ++ zs)))
theorem mt_extendT : MtM X "list.extend" (rExtendT X.K) := by
  intro pins s σ H x vs v us Q I rx rv h
  obtain ⟨l, b, xs, zs, rfl, rfl, hH, hB, hz, q⟩ := h
  cases rx
  obtain ⟨u, rfl, ru⟩ := rv.one
  cases ru
  obtain ⟨z, its, n, r, hl, e⟩ := I.lstM hH
  obtain ⟨its2, r2, e2, hl2⟩ := I.tuple hB
  obtain ⟨⟨oc, od, dt, sl⟩, g2, c2, n2, d2⟩ := e2
  have c2 : oc = .type "tuple" := c2
  have d2 : dt = .seq its2.toArray n2 := d2
  subst c2 d2
  have l1 := r.length
  have l2 := r2.length
  have hsz : its.toArray.size + its2.toArray.size ≤ sizeLine := by rw [List.size_toArray, List.size_toArray]; omega
  have hlong : ¬ (!its.toArray.isEmpty && Builtin.List.listTooLong (its.toArray.size + its2.toArray.size)) = true := by
    rw [notLongL hsz, Bool.and_false]
    exact Bool.false_ne_true
  refine call_meets PySem.F.slot_list_extend ⟨_, e, rfl⟩ PySem.F.entry_list_extend (PySem.F.args_list_extend_2 _ _)
    (list_extend_tup l its.toArray n b its2.toArray n2 od sl hlong (by rw [List.size_toArray]; omega) (by omega)) ⟨e, g2, ?_⟩
  refine ⟨.non, _, I.lset (its' := its ++ its2) hH e (by simp) (r.append r2) ?_, rfl, q⟩
  rw [List.length_append]
  omega
end
end L2
namespace PL
open PySem PySem.Spec PyProof.Rows L2
variable [Nm]
section
variable {K : PySem.W.Frag} {G H G1 H1 G2 H2 H' : Hp} {ρ ρ1 : Rho} {I J L Z : Asn} {ta tb te : TE} {tr : TA} {d e : Dat} {k : Out} {ts us : TS} {C a q : Addr} {f m : Str} {x : PyData} {ds : List PyData}
theorem e_or2A (h : E K ta ρ I d J) : E K (tOr2 ta tb) ρ I d J := fun G H σ gh en io Q k => .inl (h G H σ gh en io Q k)
theorem e_or2B (h : E K tb ρ I d J) : E K (tOr2 ta tb) ρ I d J := fun G H σ gh en io Q k => .inr (h G H σ gh en io Q k)
theorem en_or2A {P : Dat → Asn → Prop} (h : EN K ta ρ I P) : EN K (tOr2 ta tb) ρ I P := fun G H σ gh en io Q k => .inl (h G H σ gh en io Q k)
theorem en_or2B {P : Dat → Asn → Prop} (h : EN K tb ρ I P) : EN K (tOr2 ta tb) ρ I P := fun G H σ gh en io Q k => .inr (h G H σ gh en io Q k)
theorem en_cv {P P2 : Dat → Asn → Prop} {I2 : Asn} (h : EN K te ρ I2 P) (hi : ∀ G H, I.ok G H → I2.ok G H) (hp : ∀ d L, P d L → ∃ L2, P2 d L2 ∧ ∀ G H, L.ok G H → L2.ok G H) : EN K te ρ I P2 := fun G H σ gh en io Q q => h G H σ gh en (hi _ _ io) Q fun d L p v G2 H2 g2 gh2 j2 dv => by
  obtain ⟨L2, p2, hl⟩ := hp d L p
  exact q d L2 p2 v G2 H2 g2 gh2 (hl _ _ j2) dv
theorem s_dropN {P : Dat → Asn → Prop} {P2 : Rho → Asn → Prop} (h : EN K te ρ I P) (h2 : ∀ d L, P d L → P2 ρ L) : S K (tDrop te) ρ I (.ne P2) := fun G H σ D gh en io f => h G H σ gh en io _ fun d L p v G2 H2 g2 gh2 j2 dv => f ρ L (h2 d L p) G2 H2 σ g2 gh2 (env_mono g2 en) j2
theorem s_dropNS {P : Dat → Asn → Prop} (h : EN K te ρ I P) (h2 : ∀ d L, P d L → S K us ρ L k) : S K (tSeq (tDrop te) us) ρ I k := fun G H σ D gh en io f => h G H σ gh en io _ fun d L p v G2 H2 g2 gh2 j2 dv => h2 d L p G2 H2 σ D gh2 (env_mono g2 en) j2 (f.mono g2)
/-! ### promises that tell of what the call may change -/
def spM (K : PySem.W.Frag) (T : Tbs) (R : List Dat → Asn → (Dat → Asn → Prop) → Prop) : Sp := fun vs H Q _ => ∃ G ds Z Po, Same G H ∧ DvAll K G vs ds ∧ Z.ok G H ∧ TabsIn T G H ∧ R ds Z Po ∧
  ∀ d Y v G2 H2, Po d Y → Stp Z.foot G H G2 H2 → (∀ a, Y.foot a → Z.foot a ∨ H a = none) → Y.ok G2 H2 → Dv K G2 v d → Q v H2
abbrev Apart (Z J : Asn) : Prop := ∀ a, Z.foot a → ¬ J.foot a
abbrev outM (K : PySem.W.Frag) (J : Asn) (Po : Dat → Asn → Prop) : Out := .fin fun v G H => ∃ d Y, Po d Y ∧ Apart Y J ∧ (Y.and J).ok G H ∧ Dv K G v d
abbrev outV (J : Asn) (Po : Dat → Asn → Prop) : Out := .ne fun _ L => ∃ Y, Po (.d .none) Y ∧ Apart Y J ∧ ∀ G H, L.ok G H → (Y.and J).ok G H
theorem len_M {T : Tbs} {R : List Dat → Asn → (Dat → Asn → Prop) → Prop} {n : Nat} (hl : ∀ ds Z Po, R ds Z Po → ds.length = n) {vs : List V} {H : Hp} {Q : VK} {X : XK} (h : spM K T R vs H Q X) : vs.length = n := by
  obtain ⟨G, ds, Z, Po, gh, dvs, z, tb, r, q⟩ := h
  rw [dva_len dvs, hl ds Z Po r]
theorem foot_back {Y Z : Asn} {G0 H0 : Hp} {T : Tbs} (h : Apart Y ((Asn.since Z.foot G0 H0).and (Asn.tab T))) : ∀ a, Y.foot a → Z.foot a ∨ H0 a = none := fun a fa => by
  by_cases z : Z.foot a
  · exact .inl z
  · cases e : H0 a with
    | none => exact .inr rfl
    | some o => exact (h a fa (.inl ⟨z, o, e⟩)).elim
theorem body_M {T : Tbs} {R : List Dat → Asn → (Dat → Asn → Prop) → Prop} {N : List Str} {vs : List V} {H : Hp} {Q : VK} {X : XK} (hb : ∀ ds Z Po, R ds Z Po → ∀ J, HasT T J → Apart Z J → S K ts (ds.map some ++ List.replicate (N.length - ds.length) none) (Z.and J) (outM K J Po)) (h : spM K T R vs H Q X) :
    ts { nx := fun _ H' => Q .non H', rt := Q } (L2.start N vs) H := by
  obtain ⟨G, ds, Z, Po, gh, dvs, z, tb, r, q⟩ := h
  refine hb ds Z Po r ((Asn.since Z.foot G H).and (Asn.tab T)) inferInstance (fun a fa fz => fz.elim (fun y => y.1 fa) fun y => y) G H _ _ gh ?_ ⟨z, Stp.refl gh, tb⟩ fun v G2 H2 g2 gh2 ⟨d, Y, po, ap, j2, dv⟩ => q d Y v G2 H2 po j2.2.1 (foot_back ap) j2.1 dv
  unfold L2.start
  rw [dva_len dvs]
  exact env_start _ dvs
theorem body_V {T : Tbs} {R : List Dat → Asn → (Dat → Asn → Prop) → Prop} {N : List Str} {vs : List V} {H : Hp} {Q : VK} {X : XK} (hb : ∀ ds Z Po, R ds Z Po → ∀ J, HasT T J → Apart Z J → S K ts (ds.map some ++ List.replicate (N.length - ds.length) none) (Z.and J) (outV J Po)) (h : spM K T R vs H Q X) :
    ts { nx := fun _ H' => Q .non H', rt := Q } (L2.start N vs) H := by
  obtain ⟨G, ds, Z, Po, gh, dvs, z, tb, r, q⟩ := h
  refine hb ds Z Po r ((Asn.since Z.foot G H).and (Asn.tab T)) inferInstance (fun a fa fz => fz.elim (fun y => y.1 fa) fun y => y) G H _ _ gh ?_ ⟨z, Stp.refl gh, tb⟩ fun ρ2 L ⟨Y, po, ap, hl⟩ G2 H2 σ2 g2 gh2 en2 j2 => q (.d .none) Y .non G2 H2 po (hl _ _ j2).2.1 (foot_back ap) (hl _ _ j2).1 .non
  unfold L2.start
  rw [dva_len dvs]
  exact env_start _ dvs
theorem s_endM {Po : Dat → Asn → Prop} {Y : Asn} (h : S K ts ρ I (.nx ρ1 (Y.and J))) (po : Po (.d .none) Y) (ap : Apart Y J) : S K ts ρ I (outV J Po) := s_ne h ⟨Y, po, ap, fun _ _ z => z⟩
theorem apart_new {Y : Asn} (gi : J.ok G H) (h : ∀ a, Y.foot a → Z.foot a ∨ H a = none) (ap : Apart Z J) : Apart Y J := fun a fa fj => (h a fa).elim (fun z => ap a z fj) fun z => by
  obtain ⟨o, ho⟩ := J.own G H a gi fj
  rw [z] at ho
  cases ho
theorem en_methM {T : Tbs} {R : List Dat → Asn → (Dat → Asn → Prop) → Prop} {X : XK} {ds : List Dat} {Po P : Dat → Asn → Prop} [hT : HasT T J] (ha : E K ta ρ I (.r q) (Z.and J)) (hr : A K tr ρ (Z.and J) ds (Z.and J)) (hO : ∀ G H, Z.ok G H → ∃ dx us, H q = some (.ins C dx us) ∧ us.lookup m = none) (h : R (.r q :: ds) Z Po) (ap : Apart Z J) (hp : ∀ d Y, Po d Y → Apart Y J → P d (Y.and J)) :
    EN K (tMeth C m (spM K T R) [] X ta tr) ρ I P := fun G H σ gh en io Q k => ha G H σ gh en io _ fun v G1 H1 g1 gh1 j1 dv => by
  obtain rfl : v = .ref q := dv
  obtain ⟨dx, us, e, hl⟩ := hO _ _ j1.1
  refine ⟨q, dx, us, rfl, e, hl, hr G1 H1 σ gh1 (env_mono g1 en) j1 _ fun vs G2 H2 g2 gh2 j2 dvs => ?_⟩
  rw [List.append_nil]
  exact ⟨G2, .r q :: ds, Z, Po, gh2, ⟨rfl, dvs⟩, j2.1, hT.get _ _ j2.2, h, fun d Y v G3 H3 po s fr yo dv3 => k d _ (hp d Y po (apart_new j2.2 fr ap)) v G3 H3 ((g1.trans g2).trans s.gg) s.gh ⟨yo, J.st _ _ _ _ _ (fun a fj fz => ap a fz fj) s j2.2⟩ dv3⟩
/-! ### a list that is a stack -/
theorem dpa_init : ∀ {vs : List V} {ds : List PyData}, DpAll K G vs ds → DpAll K G vs.dropLast ds.dropLast
  | _, _, .nil => .nil
  | _, _, .cons _ .nil => .nil
  | _, _, .cons a (.cons b c) => .cons a (dpa_init (.cons b c))
theorem e_popL {i : Nat} (hi : ρ[i]? = some (some (.r q))) (hx : ds.getLast? = some x) (hf : ¬ J.foot q) : E K (tBM0 K "list" rPop (tVar i)) ρ (lJ K q ds J) (.d x) (lJ K q ds.dropLast J) := fun G H σ gh en io Q k => by
  obtain ⟨v, hv, rfl⟩ := env_get en hi
  obtain ⟨⟨gq, vs, hq, r⟩, jo⟩ := io
  have hx2 : ds[ds.length - 1]? = some x := by rw [← List.getLast?_eq_getElem?]; exact hx
  obtain ⟨u, hu, du⟩ := dpa_get r hx2
  rw [← dpa_len r] at hu
  have s := Stp.store (o := HO.lst vs.dropLast) gh gq hq
  refine ⟨.ref q, hv, .inl ⟨rfl, _, .inl (.inl hq)⟩, q, vs, u, rfl, rfl, hq, hu, k u G _ s.gg s.gh ⟨⟨gq, _, upd_same, ?_⟩, J.st _ _ _ _ _ (fun a fa (z : a = q) => hf (z ▸ fa)) s jo⟩ du⟩
  exact dpa_init r
theorem s_extT {i : Nat} {es : List PyData} (he : E K te ρ (lJ K q ds J) (.t es) (lJ K q ds J)) (hi : ρ[i]? = some (some (.r q))) (hl : ds.length + es.length ≤ 100000) (hf : ¬ J.foot q) : S K (tDrop (tBM K "list" (rExtendT K) (tVar i) (tCons te tNil))) ρ (lJ K q ds J) (.nx ρ (lJ K q (ds ++ es) J)) := fun G H σ D gh en io f => by
  obtain ⟨v, hv, rfl⟩ := env_get en hi
  have io' := io
  obtain ⟨⟨gq, vs, hq, r⟩, jo⟩ := io
  refine ⟨.ref q, hv, .inl ⟨rfl, _, .inl (.inl hq)⟩, he G H σ gh en io' _ fun v G1 H1 g1 gh1 j1 dv => ?_⟩
  obtain ⟨⟨gq1, vs1, hq1, r1⟩, jo1⟩ := j1
  cases dv with
  | tup sq rr =>
    rename_i b zs
    have s := Stp.store (o := HO.lst (vs1 ++ zs)) gh1 gq1 hq1
    refine ⟨q, b, vs1, zs, rfl, rfl, hq1, same_t gh1 sq, ?_, ?_⟩
    · rw [dpa_len r1, dpa_len rr]
      exact Nat.le_trans hl (by decide)
    · exact f G1 _ σ g1 s.gh (env_mono g1 en) ⟨⟨gq1, _, upd_same, dpa_app r1 rr⟩, J.st _ _ _ _ _ (fun a fa (z : a = q) => hf (z ▸ fa)) s jo1⟩
end
end PL
set_option maxHeartbeats 1000000
/-! questions to objects, tuples of objects, functions handed on: over data -/
namespace PL
open PySem PySem.Spec PyProof.Rows L2 LamX LM CLO
variable [Nm]
section
variable {K : PySem.W.Frag} {G H G1 H1 G2 H2 H' : Hp} {ρ ρ1 : Rho} {I J L Z N : Asn} {ta tb te : TE} {tr : TA} {d e d1 : Dat} {k : Out} {ts us : TS} {C a q : Addr} {f m : Str} {x : PyData} {ds : List PyData} {qs : List Addr}
/-! ### questions: they change nothing that is told -/
def spQ (K : PySem.W.Frag) (T : Tbs) (R : List Dat → Asn → Dat → Prop) : Sp := fun vs H Q _ => ∃ G ds Z d, Same G H ∧ DvAll K G vs ds ∧ Z.ok G H ∧ TabsIn T G H ∧ R ds Z d ∧ ∀ v G2 H2, Stp NoA G H G2 H2 → Dv K G2 v d → Q v H2
theorem len_Q {T : Tbs} {R : List Dat → Asn → Dat → Prop} {n : Nat} (hl : ∀ ds Z d, R ds Z d → ds.length = n) {vs : List V} {H : Hp} {Q : VK} {X : XK} (h : spQ K T R vs H Q X) : vs.length = n := by
  obtain ⟨G, ds, Z, d, gh, dvs, z, tb, r, q⟩ := h
  rw [dva_len dvs, hl ds Z d r]
theorem body_Q {T : Tbs} {R : List Dat → Asn → Dat → Prop} {nn : List Str} {vs : List V} {H : Hp} {Q : VK} {X : XK} (hb : ∀ ds Z d, R ds Z d → ∀ I, HasT T I → (∀ G H, I.ok G H → Z.ok G H) → S K ts (ds.map some ++ List.replicate (nn.length - ds.length) none) I (.rt d I)) (h : spQ K T R vs H Q X) :
    ts { nx := fun _ H' => Q .non H', rt := Q } (L2.start nn vs) H := by
  obtain ⟨G, ds, Z, d, gh, dvs, z, tb, r, q⟩ := h
  refine hb ds Z d r (Z.and ((Asn.since NoA G H).and (Asn.tab T))) inferInstance (fun _ _ z => z.1) G H _ _ gh ?_ ⟨z, Stp.refl gh, tb⟩ fun v G2 H2 g2 gh2 j2 dv => q v G2 H2 j2.2.1 dv
  unfold L2.start
  rw [dva_len dvs]
  exact env_start _ dvs
theorem e_callQ {T : Tbs} {R : List Dat → Asn → Dat → Prop} {X : XK} {ds : List Dat} [hT : HasT T J] (hr : A K tr ρ I ds J) (hZ : ∀ G H, J.ok G H → Z.ok G H) (h : R ds Z d) : E K (tCall (spQ K T R) [] X tr) ρ I d J := fun G H σ gh en io Q k => hr G H σ gh en io _ fun vs G1 H1 g1 gh1 j1 dvs => by
  rw [List.append_nil]
  exact ⟨G1, ds, Z, d, gh1, dvs, hZ _ _ j1, hT.get _ _ j1, h, fun v G2 H2 s dv => k v G2 H2 (g1.trans s.gg) s.gh (Asn.pure_st s j1) dv⟩
theorem e_methQ {T : Tbs} {R : List Dat → Asn → Dat → Prop} {X : XK} {ds : List Dat} [hT : HasT T L] (ha : E K ta ρ I (.r q) J) (hr : A K tr ρ J ds L) (hO : ∀ G H, J.ok G H → ∃ dx us, H q = some (.ins C dx us) ∧ us.lookup m = none) (hZ : ∀ G H, L.ok G H → Z.ok G H) (h : R (.r q :: ds) Z d) : E K (tMeth C m (spQ K T R) [] X ta tr) ρ I d L := fun G H σ gh en io Q k => ha G H σ gh en io _ fun v G1 H1 g1 gh1 j1 dv => by
  obtain rfl : v = .ref q := dv
  obtain ⟨dx, us, e, hl⟩ := hO _ _ j1
  refine ⟨q, dx, us, rfl, e, hl, hr G1 H1 σ gh1 (env_mono g1 en) j1 _ fun vs G2 H2 g2 gh2 j2 dvs => ?_⟩
  rw [List.append_nil]
  exact ⟨G2, .r q :: ds, Z, d, gh2, ⟨rfl, dvs⟩, hZ _ _ j2, hT.get _ _ j2, h, fun v G3 H3 s dv3 => k v G3 H3 ((g1.trans g2).trans s.gg) s.gh (Asn.pure_st s j2) dv3⟩
theorem e_propQ {T : Tbs} {R : List Dat → Asn → Dat → Prop} {X : XK} [hT : HasT T J] (ha : E K ta ρ I (.r q) J) (hO : ∀ G H, J.ok G H → ∃ dx us, H q = some (.ins C dx us)) (hZ : ∀ G H, J.ok G H → Z.ok G H) (h : R [.r q] Z d) : E K (tProp C (spQ K T R) [] X ta) ρ I d J := fun G H σ gh en io Q k => ha G H σ gh en io _ fun v G1 H1 g1 gh1 j1 dv => by
  obtain rfl : v = .ref q := dv
  obtain ⟨dx, us, e⟩ := hO _ _ j1
  exact ⟨q, dx, us, rfl, e, G1, [.r q], Z, d, gh1, ⟨rfl, trivial⟩, hZ _ _ j1, hT.get _ _ j1, h, fun v G3 H3 s dv3 => k v G3 H3 (g1.trans s.gg) s.gh (Asn.pure_st s j1) dv3⟩
/-- one's own field, the object told somewhere in J -/
theorem e_fldR {fs : FS} (c : Cls K C) (n : NoAttr K C f) (ha : E K ta ρ I (.r q) J) (hO : ∀ G H, J.ok G H → ∃ dx us, H q = some (.ins C dx us) ∧ FsAll K G us fs) (h : fs.lookup f = some d) : E K (tFld K ta f) ρ I d J := fun G H σ gh en io Q k => ha G H σ gh en io _ fun v G1 H1 g1 gh1 j1 dv => by
  obtain rfl : v = .ref q := dv
  obtain ⟨dx, us, hq, r⟩ := hO _ _ j1
  obtain ⟨z, hz, dz⟩ := (fs_look r).2 d h
  exact ⟨q, C, dx, us, z, rfl, hq, c, n, hz, k z G1 H1 g1 gh1 j1 dz⟩
/-! ### tuples of objects -/
abbrev dR (K : PySem.W.Frag) (qs : List Addr) : Dat := .p fun G v => ∃ a, v = .ref a ∧ SqT K G a (qs.map V.ref)
theorem dr_out {v : V} (h : Dv K G v (dR K qs)) : ∃ a, v = .ref a ∧ SqT K G a (qs.map V.ref) := by
  obtain ⟨G0, s, a, e, h1⟩ := h
  exact ⟨a, e, same_t s h1⟩
theorem dva_refs : ∀ {qs : List Addr} {vs : List V}, DvAll K G vs (qs.map Dat.r) → vs = qs.map V.ref
  | [], [], _ => rfl
  | q :: qs, v :: vs, h => by
    obtain ⟨h1, h2⟩ := h
    rw [List.map_cons, dva_refs h2, show v = V.ref q from h1]
  | [], _ :: _, h => h.elim
  | _ :: _, [], h => h.elim
theorem en_tupR {P : List Dat → Asn → Prop} {P2 : Dat → Asn → Prop} (h : AN K tr ρ I P) (h2 : ∀ ds J, P ds J → ∃ qs : List Addr, ds = qs.map Dat.r ∧ qs.length ≤ 100000 ∧ P2 (dR K qs) J) : EN K (tTup tr) ρ I P2 := fun G H σ gh en io Q q => h G H σ gh en io _ fun ds J p vs G1 H1 g1 gh1 j1 dvs => by
  obtain ⟨qs, rfl, hl, p2⟩ := h2 ds J p
  obtain rfl := dva_refs dvs
  refine ⟨by rw [List.length_map]; exact sz_of hl, fun a ha => ?_⟩
  have s := Stp.new (o := .tup (qs.map V.ref)) gh1 ha
  exact q _ J p2 _ _ _ (g1.trans s.gg) s.gh (Asn.pure_st s j1) ⟨_, Same.refl _, a, rfl, .inl (.inl upd_same)⟩
theorem e_ixR {j : Nat} (ha : E K ta ρ I (dR K qs) J) (hb : E K tb ρ J (.i (j : Nat)) L) (h : qs[j]? = some q) : E K (tOp (rIxT K) ta tb) ρ I (.r q) L :=
  e_op ha hb fun G H a b gh lo dx dy Q k => by
    obtain ⟨t, rfl, s⟩ := dr_out dx
    obtain rfl := dv_int dy
    exact ⟨t, _, _, .ref q, rfl, rfl, same_t gh s, atI_nat (by rw [List.getElem?_map, h]; rfl), k _ G H (Same.refl _) gh lo rfl⟩
theorem e_catR {rs : List Addr} (ha : E K ta ρ I (dR K qs) J) (hb : E K tb ρ J (dR K rs) L) (h1 : qs ≠ []) (h2 : rs ≠ []) (hl : qs.length + rs.length ≤ 100000) : E K (tOp (rCatA K) ta tb) ρ I (dR K (qs ++ rs)) L :=
  e_op ha hb fun G H a b gh lo dx dy Q k => by
    obtain ⟨t, rfl, s⟩ := dr_out dx
    obtain ⟨u, rfl, s2⟩ := dr_out dy
    refine ⟨t, u, _, _, rfl, rfl, same_t gh s, same_t gh s2, by rw [List.length_map, List.length_map]; exact sz_of hl, fun z => absurd (List.map_eq_nil_iff.mp z) h1, fun _ z => absurd (List.map_eq_nil_iff.mp z) h2, fun _ _ p hp => ?_⟩
    have s3 := Stp.new (o := .tup (qs.map V.ref ++ rs.map V.ref)) gh hp
    exact k _ _ _ s3.gg s3.gh (Asn.pure_st s3 lo) ⟨_, Same.refl _, p, rfl, by rw [List.map_append]; exact .inl (.inl upd_same)⟩
/-- a walk over objects -/
structure WalkR (Ji : It) (qs : List Addr) (G1 : Hp) : Prop where
  go : ∀ i G H, i < qs.length → Same G1 G → Same G H → Ji.go i H
  stop : ∀ G H, Same G1 G → Same G H → Ji.stop qs.length H
  yld : ∀ i G H v H', i < qs.length → Same G1 G → Same G H → Ji.yld i H v H' → ∃ q, qs[i]? = some q ∧ v = .ref q ∧ H' = H
theorem walk_R {a : Addr} (s : SqT K G a (qs.map V.ref)) : WalkR (Itt K a) qs G := by
  have lx : (qs.map V.ref).length = qs.length := List.length_map ..
  refine ⟨fun i G2 H hi a1 a2 => ⟨_, (qs.map V.ref)[i]'(by omega), same_t (a1.trans a2) s, List.getElem?_eq_getElem (by omega)⟩, fun G2 H a1 a2 => ⟨_, same_t (a1.trans a2) s, by omega⟩, fun i G2 H v H' hi a1 a2 y => ?_⟩
  obtain ⟨rfl, y2⟩ := y
  have h3 := y2 _ (same_t (a1.trans a2) s)
  rw [List.getElem?_map, List.getElem?_eq_getElem hi] at h3
  exact ⟨qs[i], List.getElem?_eq_getElem hi, (Option.some.inj h3).symm, rfl⟩
theorem s_loopRf {α : Type} {j : Nat} (W : Nat → α → Prop) (P : α → Rho) (V : α → Asn) (a0 : α) (w0 : W 0 a0) (hl : E K te ρ I (dR K qs) (V a0)) (h0 : ρ = P a0)
    (step : ∀ i a q, qs[i]? = some q → W i a → S K ts ((P a).set j (some (.r q))) (V a) (.ne fun r L => ∃ a', W (i + 1) a' ∧ r = P a' ∧ L = V a'))
    (done : ∀ a, W qs.length a → S K us (P a) (V a) k) : S K (tSeq (tFor (iTup K te) (gName j) ts) us) ρ I k := fun G H σ D gh en io f => by
  show tFor (iTup K te) (gName j) ts { D with nx := fun σ' H' => us D σ' H' } σ H
  refine hl G H σ gh en io _ fun v G1 H1 g1 gh1 j1 dv => ?_
  obtain ⟨t, rfl, s⟩ := dr_out dv
  have wk := walk_R s
  refine ⟨t, rfl, ⟨_, same_t gh1 s⟩, fun i m σ' H' => m = qs.length - i ∧ i ≤ qs.length ∧ ∃ a G', W i a ∧ Same G1 G' ∧ Same G' H' ∧ EnvD K G' σ' (P a) ∧ (V a).ok G' H', ⟨qs.length, rfl, Nat.zero_le _, a0, G1, w0, Same.refl _, gh1, h0 ▸ env_mono g1 en, j1⟩, fun i m σ' H' hw => ?_⟩
  obtain ⟨rfl, hi, a, G', wa, a1, a2, a3, a4⟩ := hw
  by_cases c : i < qs.length
  · refine .inr ⟨wk.go i G' H' c a1 a2, fun σ2 H2 => ∃ a' G2, W (i + 1) a' ∧ Same G1 G2 ∧ Same G2 H2 ∧ EnvD K G2 σ2 (P a') ∧ (V a').ok G2 H2, fun σ2 H2 ⟨a', G2, wa', b1, b2, b3, b4⟩ => ⟨qs.length - (i + 1), by omega, rfl, c, a', G2, wa', b1, b2, b3, b4⟩, fun v H2 y => ?_⟩
    obtain ⟨q, hq, rfl, rfl⟩ := wk.yld i G' H' v H2 c a1 a2 y
    exact step i a q hq wa G' _ _ _ a2 (env_set (d := .r q) rfl a3) a4 fun r L ⟨a', wa', e1, e2⟩ G3 H3 σ3 g3 gh3 en3 j3 => ⟨a', G3, wa', a1.trans g3, gh3, e1 ▸ en3, e2 ▸ j3⟩
  · have e : i = qs.length := by omega
    subst e
    exact .inl ⟨wk.stop G' H' a1 a2, done a wa G' H' σ' D a2 a3 a4 ((f.mono g1).mono a1)⟩
/-- [e for g in objects] -/
theorem e_lcR {j : Nat} {vs : List Nat} {e : Nat → PyData} (hj : j ∈ vs) (hl : E K ta ρ I (dR K qs) I) (hz : qs.length ≤ 100000)
    (he : ∀ i q, qs[i]? = some q → ∀ I', (∀ G H, I'.ok G H → I.ok G H) → E K te ((wipeR ρ vs).set j (some (.r q))) I' (.d (e i)) I') : E K (tLc (iTup K ta) (gName j) tYes te vs) ρ I (.d (.list (rowK (fun _ => true) e qs.length))) I := fun G H σ gh en io Q k =>
  hl G H σ gh en io _ fun v G1 H1 g1 gh1 j1 dv => by
    obtain ⟨t, rfl, s⟩ := dr_out dv
    have wk := walk_R s
    refine ⟨t, rfl, ⟨_, same_t gh1 s⟩, fun D hD => ?_⟩
    have gD : G1 D = none := gh1.free hD
    have nD : ∀ a, I.foot a → ¬ a = D := fun a fa z => by
      obtain ⟨o, ho⟩ := I.own G1 H1 a j1 fa
      rw [z, hD] at ho
      cases ho
    have st0 := Stp.newM (o := HO.lst []) gh1 hD
    refine ⟨fun i m H' => m = qs.length - i ∧ i ≤ qs.length ∧ ∃ G', Same G1 G' ∧ Same G' H' ∧ I.ok G' H' ∧ (lA K D (rowK (fun _ => true) e i)).ok G' H' ∧ Stp (· = D) G1 (upd H1 D (.lst [])) G' H', ⟨qs.length, rfl, Nat.zero_le _, G1, Same.refl _, st0.gh, Asn.pure_st st0 j1, ⟨gD, [], upd_same, .nil⟩, Stp.refl st0.gh⟩, fun i m H' hw => ?_⟩
    obtain ⟨rfl, hi, G', a1, a2, a3, a4, a5⟩ := hw
    by_cases c : i < qs.length
    · refine .inr ⟨wk.go i G' H' c a1 a2, fun H2 => ∃ G2, Same G1 G2 ∧ Same G2 H2 ∧ I.ok G2 H2 ∧ (lA K D (rowK (fun _ => true) e (i + 1))).ok G2 H2 ∧ Stp (· = D) G1 (upd H1 D (.lst [])) G2 H2, fun H2 z => ⟨qs.length - (i + 1), by omega, rfl, c, z⟩, fun v H2 y => ?_⟩
      obtain ⟨q, hq, rfl, eH⟩ := wk.yld i G' H' v H2 c a1 a2 y
      subst eH
      refine ⟨(wipe_in hj).trans (wipe_wipe σ vs), ?_⟩
      simp only [tYes, if_true]
      refine he i q hq (((lA K D (rowK (fun _ => true) e i)).and I).and (Asn.since (· = D) G1 (upd H1 D (.lst [])))) (fun _ _ z => z.1.2) G' _ _ a2 (env_set (d := .r q) rfl (env_wipe (env_mono (g1.trans a1) en) vs)) ⟨⟨a4, a3⟩, a5⟩ _ fun z G3 H3 g3 gh3 j3 dy => ?_
      obtain ⟨⟨⟨gq, ws, hq, r2⟩, i3⟩, st3⟩ := j3
      have st4 := Stp.store (o := HO.lst (ws ++ [z])) gh3 gq hq
      refine ⟨ws, hq, ?_, G3, a1.trans g3, st4.gh, I.st _ _ _ _ _ nD st4 i3, ⟨gq, _, upd_same, ?_⟩, st3.trans st4⟩
      · rw [dpa_len r2]
        have := rowK_len (b := fun _ => true) (e := e) i
        rw [sizeLine_eq]
        omega
      · rw [rowK_s, if_pos rfl]
        exact dpa_app r2 (.cons dy .nil)
    · have ei : i = qs.length := by omega
      subst ei
      obtain ⟨gq, ws, hq, r2⟩ := a4
      have st : Stp (· = D) G' H' (upd G' D (.lst ws)) H' := Stp.frz a2 gq hq
      exact .inl ⟨wk.stop G' H' a1 a2, k _ (upd G' D (.lst ws)) H' ((g1.trans a1).trans st.gg) st.gh (I.st _ _ _ _ _ nD st a3) (.lst (.inl (.inl upd_same)) (dp_monos st.gg _ ws r2))⟩
/-! ### functions handed on -/
def spG (K : PySem.W.Frag) (R : Dat → (Dat → Dat → Prop) → Dat → Prop) : V → (V → Hp → VK → Prop) → Hp → VK → Prop := fun v1 tl H Q => ∃ G d1 Rm d, Same G H ∧ Dv K G v1 d1 ∧
  (∀ dm dr, Rm dm dr → ∀ G' H' v, Stp NoA G H G' H' → Dv K G' v dm → ∀ Q' : VK, (∀ v' G2 H2, Stp NoA G' H' G2 H2 → Dv K G2 v' dr → Q' v' H2) → tl v H' Q') ∧ R d1 Rm d ∧ ∀ v G2 H2, Stp NoA G H G2 H2 → Dv K G2 v d → Q v H2
theorem e_lam1 {T : Tbs} {P : Addr} {q : Str} {ia : Nat} {R : Dat → (Dat → Dat → Prop) → Dat → Prop} {Rm : Dat → Dat → Prop} [hT : HasT T J] (hP : P ∈ T.ls) (hq : Nm.nm P = q) (he : E K te ρ I d1 J) (hb : ∀ dm dr, Rm dm dr → ∀ I', E K tb (ρ.set ia (some dm)) I' dr I') (h : R d1 Rm d) : E K (tLam1 P q ia te tb (spG K R)) ρ I d J := fun G H σ gh en io Q k => he G H σ gh en io _ fun v1 G1 H1 g1 gh1 j1 dv1 => by
  have t := (hT.get _ _ j1).2 P hP
  refine ⟨by rw [← hq]; exact t.2, fun H2 lm => ?_⟩
  have st := Stp.lam gh1 t hq lm.keep lm.tab
  refine ⟨G1, d1, Rm, d, st.gh, dv1, fun dm dr r G' H' v s dv Q' hq' => ?_, h, fun v G2 H2 s dv => k v G2 H2 (g1.trans s.gg) s.gh (Asn.pure_st (st.trans s) j1) dv⟩
  exact hb dm dr r (Asn.since NoA G' H') G' H' _ s.gh (env_set dv (env_mono (g1.trans s.gg) en)) (Stp.refl s.gh) Q' fun v' G2 H2 g2 gh2 j2 dv' => hq' v' G2 H2 j2 dv'
theorem e_ms {i : Nat} {f c' : Addr} {q : Str} {tl : V → Hp → VK → Prop} {Rm : Dat → Dat → Prop} {G0 H0 : Hp} {dm dr : Dat} (hS : ∀ G' H', J.ok G' H' → Stp NoA G0 H0 G' H') (hc : H0 c' = some (CodeO c' q)) (hM : ∀ dm dr, Rm dm dr → ∀ G' H' v, Stp NoA G0 H0 G' H' → Dv K G' v dm → ∀ Q' : VK, (∀ v' G2 H2, Stp NoA G' H' G2 H2 → Dv K G2 v' dr → Q' v' H2) → tl v H' Q')
    (hi : ρ[i]? = some (some (.r f))) (he : E K te ρ J dm J) (hm : Rm dm dr) : E K (fun σZ HZ Q => σZ[i]? = some (some (.ref f)) ∧ tMs i f c' q te tl σZ HZ Q) ρ J dr J := fun G H σ gh en io Q k => by
  obtain ⟨o, ho, eo⟩ := env_get en hi
  have eo : o = .ref f := eo
  subst eo
  refine ⟨ho, he G H σ gh en io _ fun v G1 H1 g1 gh1 j1 dv => ⟨ho, ?_, hM dm dr hm G1 H1 v (hS _ _ j1) dv Q fun v' G2 H2 s dv' => k v' G2 H2 (g1.trans s.gg) s.gh (Asn.pure_st s j1) dv'⟩⟩
  obtain ⟨u, e1, e2⟩ := ((hS _ _ j1).hh c' _ (fun z => z) hc).some
  rw [e1, e2 (fun ps => codeO_ne ps)]
end
end PL
set_option maxHeartbeats 1000000
/-! over data: sorted whole numbers; stacks; a def that hands back a new list -/
namespace PL
open PySem PySem.Spec PyProof.Rows L2
variable [Nm]
section
variable {K : PySem.W.Frag} {G H G1 H1 G2 H2 H' : Hp} {ρ ρ1 : Rho} {I J L Z N : Asn} {ta tb te : TE} {tr : TA} {d e d1 : Dat} {k : Out} {ts us : TS} {C a q : Addr} {f m : Str} {x : PyData} {ds : List PyData} {ns es ks : List Int}
theorem ints_eq (pm : es.Perm ns) (up : es.Pairwise (· ≤ ·)) {ys : List Int} (hp : ys.Perm ns) (hu : ys.Pairwise (· ≤ ·)) : ys = es := List.Perm.eq_of_pairwise (fun a b _ _ h1 h2 => Int.le_antisymm h1 h2) hu up (hp.trans pm.symm)
theorem dpa_int_eq : ∀ {vs : List V} {ns : List Int}, DpAll K G vs (ns.map PyData.int) → vs = ns.map V.int
  | _, [], .nil => rfl
  | _, n :: ns, .cons a b => by
    cases a
    rw [dpa_int_eq b]
    rfl
theorem sort_end {ys : List Int} {p : Addr} (gh : Same G H) (jo : J.ok G H) (hp : H p = none) : ∃ G2 H2, Same G G2 ∧ Same G2 H2 ∧ J.ok G2 H2 ∧ H2 = upd H p (.lst (ys.map V.int)) ∧ Dv K G2 (.ref p) (.d (.list (ys.map PyData.int))) := by
  have st := Stp.new (o := HO.lst (ys.map V.int)) gh hp
  exact ⟨_, _, st.gg, st.gh, Asn.pure_st st jo, rfl, .lst (.inl (.inl upd_same)) (dpa_ints ys)⟩
theorem e_sortI (hr : A K tr ρ I [.d (.list (ns.map PyData.int))] J) (pm : es.Perm ns) (up : es.Pairwise (· ≤ ·)) : E K (tCB (rSortedI K) tr) ρ I (.d (.list (es.map PyData.int))) J :=
  e_cb hr fun G H vs gh jo h Q k => by
    obtain ⟨v, rfl, h1⟩ := dva1 h
    cases h1 with
    | lst s r =>
      rename_i b ws
      obtain rfl := dpa_int_eq r
      refine ⟨b, ns, rfl, gh.seq s, fun ys p hp hu hn => ?_⟩
      obtain rfl := ints_eq pm up hp hu
      obtain ⟨G2, H2, s1, s2, s3, rfl, s5⟩ := sort_end (K := K) (ys := ys) gh jo hn
      exact k _ _ _ s1 s2 s3 s5
theorem e_sortIR (hr : A K tr ρ I [.r q] J) (hN : ∀ G H, J.ok G H → (lA K q (ns.map PyData.int)).ok G H) (pm : es.Perm ns) (up : es.Pairwise (· ≤ ·)) : E K (tCB (rSortedI K) tr) ρ I (.d (.list (es.map PyData.int))) J :=
  e_cb hr fun G H vs gh jo h Q k => by
    obtain ⟨v, rfl, h1⟩ := dva1 h
    obtain rfl : v = .ref q := h1
    obtain ⟨gq, ws, hq, r⟩ := hN _ _ jo
    obtain rfl := dpa_int_eq r
    refine ⟨q, ns, rfl, .inl (.inl hq), fun ys p hp hu hn => ?_⟩
    obtain rfl := ints_eq pm up hp hu
    obtain ⟨G2, H2, s1, s2, s3, rfl, s5⟩ := sort_end (K := K) (ys := ys) gh jo hn
    exact k _ _ _ s1 s2 s3 s5
/-- sorted(d), d a dict by whole numbers that is told somewhere in J -/
theorem e_sortKR (hr : A K tr ρ I [.r q] J) (hN : ∀ G H, J.ok G H → ∃ kvs, H q = some (.dK kvs) ∧ kvs.map (·.1) = ks.map Sum.inl) (hl : ks.length < 64) (pm : es.Perm ks) (up : es.Pairwise (· ≤ ·)) : E K (tCB (fun xs H Q => ∃ (a : Addr) (kvs : List (Key × V)) (ks : List Int), xs = [.ref a] ∧ Rd H a (.dK kvs) ∧ kvs.map (·.1) = ks.map Sum.inl ∧ ks.length < 64 ∧ ∀ (ys : List Int) (p : Addr), ys.Perm ks → ys.Pairwise (· ≤ ·) → H p = none → Q (.ref p) (upd H p (.lst (ys.map V.int)))) tr) ρ I (.d (.list (es.map PyData.int))) J :=
  e_cb hr fun G H vs gh jo h Q k => by
    obtain ⟨v, rfl, h1⟩ := dva1 h
    obtain rfl : v = .ref q := h1
    obtain ⟨kvs, hq, hk⟩ := hN _ _ jo
    refine ⟨q, kvs, ks, rfl, .inl hq, hk, hl, fun ys p hp hu hn => ?_⟩
    obtain rfl := ints_eq pm up hp hu
    obtain ⟨G2, H2, s1, s2, s3, rfl, s5⟩ := sort_end (K := K) (ys := ys) gh jo hn
    exact k _ _ _ s1 s2 s3 s5
/-- x != [], x a list of one's own -/
theorem e_neR {i : Nat} (hi : ρ[i]? = some (some (.r q))) (hs : SeqAt.shaped (.list ds) = true) : E K (tOp (rNeD K) (tVar i) (tLst tNil)) ρ (lJ K q ds J) (.b (!PyData.eqv (.list ds) (.list []))) (lJ K q ds J) :=
  e_op (d := .r q) (e := .d (.list [])) (L := lJ K q ds J) (e_var hi) (e_lst a_nil .nil (by decide)) fun G H v w gh lo dv dw Q k => by
    obtain rfl : v = .ref q := dv
    obtain ⟨gq, vs, hq, r⟩ := lo.1
    exact ⟨.list ds, .list [], .lst (.inl (.inl hq)) (dp_monos gh _ _ r), dp_mono gh _ _ dw, hs, by decide +kernel, k _ G H (Same.refl _) gh lo (.bl _)⟩
theorem ne_nil_tt (x : PyData) (ds : List PyData) : (!PyData.eqv (.list (ds ++ [x])) (.list [])) = true := by
  cases ds <;> simp [PyData.eqv, PyData.eqvAll]
theorem ne_nil_ff : (!PyData.eqv (.list []) (.list [])) = false := by simp [PyData.eqv, PyData.eqvAll]
/-- return [..], a list of the caller's own -/
theorem s_retL {xs : List PyData} {Po : Dat → Asn → Prop} (hr : A K tr ρ (Z.and J) (xs.map Dat.d) (Z.and J)) (hl : xs.length ≤ 100000) (po : ∀ q, Po (.r q) (lA K q xs)) : S K (tRet (tLst tr)) ρ (Z.and J) (outM K J Po) := fun G H σ D gh en io f => hr G H σ gh en io _ fun vs G1 H1 g1 gh1 j1 dvs => by
  have r := dva_dp dvs
  refine ⟨by rw [dpa_len r]; exact sz_of hl, fun p hp => ?_⟩
  have s := Stp.newM (o := HO.lst vs) gh1 hp
  refine f (.ref p) G1 _ (g1.trans s.gg) s.gh ⟨.r p, lA K p xs, po p, fun a (z : a = p) fj => ?_, ⟨⟨gh1.free hp, vs, upd_same, r⟩, Asn.pure_st s j1.2⟩, rfl⟩
  obtain ⟨o, ho⟩ := J.own G1 H1 a j1.2 fj
  rw [z, hp] at ho
  cases ho
theorem s_stopP {P : V → Hp → Hp → Prop} (h : S K ts ρ I (.fin P)) : S K (tSeq ts us) ρ I (.fin P) := fun G H σ D gh en io f => h G H σ _ gh en io f
/-- a question that hands back None -/
theorem body_QV {T : Tbs} {R : List Dat → Asn → Dat → Prop} {nn : List Str} {vs : List V} {H : Hp} {Q : VK} {X : XK} (hb : ∀ ds Z d, R ds Z d → d = .d .none ∧ ∀ I, HasT T I → (∀ G H, I.ok G H → Z.ok G H) → ∃ ρ', S K ts (ds.map some ++ List.replicate (nn.length - ds.length) none) I (.nx ρ' I)) (h : spQ K T R vs H Q X) :
    ts { nx := fun _ H' => Q .non H', rt := Q } (L2.start nn vs) H := by
  obtain ⟨G, ds, Z, d, gh, dvs, z, tb, r, q⟩ := h
  obtain ⟨rfl, hb⟩ := hb ds Z d r
  obtain ⟨ρ', hs⟩ := hb (Z.and ((Asn.since NoA G H).and (Asn.tab T))) inferInstance (fun _ _ z => z.1)
  refine hs G H _ _ gh ?_ ⟨z, Stp.refl gh, tb⟩ fun G2 H2 σ2 g2 gh2 en2 j2 => q .non G2 H2 j2.2.1 .non
  unfold L2.start
  rw [dva_len dvs]
  exact env_start _ dvs
/-- while, whose turns end or go on by continue -/
theorem s_whileC {α : Type} {tc : TT} (Iv : α → Prop) (P : α → Rho) (V : α → Asn) (μ : α → Nat) (s0 : α) (h0 : Iv s0)
    (turn : ∀ s, Iv s → (T K tc (P s) (V s) true (V s) ∧ ∃ s', Iv s' ∧ μ s' < μ s ∧ ∃ ρc, Less ρc (P s') ∧ (S K ts (P s) (V s) (.nx ρc (V s')) ∨ S K ts (P s) (V s) (.ct ρc (V s')))) ∨ (T K tc (P s) (V s) false (V s) ∧ S K us (P s) (V s) k)) :
    S K (tSeq (tWhile tc ts) us) (P s0) (V s0) k := fun G H σ D gh en io f => by
  show tWhile tc ts { D with nx := fun σ' H' => us D σ' H' } σ H
  refine ⟨fun m σ' H' => ∃ s G', m = μ s ∧ Iv s ∧ Same G G' ∧ Same G' H' ∧ EnvD K G' σ' (P s) ∧ (V s).ok G' H', ⟨μ s0, s0, G, rfl, h0, Same.refl _, gh, en, io⟩, fun m σ' H' hw => ?_⟩
  obtain ⟨s, G', rfl, iv, g', gh', en', io'⟩ := hw
  rcases turn s iv with ⟨ht, s', iv', lt, ρc, ls, hb⟩ | ⟨ht, hk⟩
  · refine ht G' H' σ' gh' en' io' _ fun G1 H1 g1 gh1 j1 => ?_
    refine ⟨fun σ2 H2 => ∃ G2, Same G G2 ∧ Same G2 H2 ∧ EnvD K G2 σ2 (P s') ∧ (V s').ok G2 H2, fun σ2 H2 ⟨G2, a, b, c, d⟩ => ⟨μ s', lt, s', G2, rfl, iv', a, b, c, d⟩, ?_⟩
    rcases hb with hs | hs
    · exact hs G1 H1 σ' _ gh1 (env_mono g1 en') j1 fun G2 H2 σ2 g2 gh2 en2 j2 => ⟨G2, (g'.trans g1).trans g2, gh2, env_less ls en2, j2⟩
    · exact hs G1 H1 σ' _ gh1 (env_mono g1 en') j1 fun G2 H2 σ2 g2 gh2 en2 j2 => ⟨G2, (g'.trans g1).trans g2, gh2, env_less ls en2, j2⟩
  · exact ht G' H' σ' gh' en' io' _ fun G1 H1 g1 gh1 j1 => hk G1 H1 σ' D gh1 (env_mono g1 en') j1 ((f.mono g').mono g1)
/-- a call that hands back a new list of one's own -/
theorem en_callL {T : Tbs} {R : List Dat → Asn → (Dat → Asn → Prop) → Prop} {X : XK} {ds : List Dat} {xs : List PyData} [hT : HasT T J] (hr : A K tr ρ I ds J) (h : R ds .tt (fun d Y => ∃ q, d = .r q ∧ Y = lA K q xs)) : EN K (tCall (spM K T R) [] X tr) ρ I (fun d L => ∃ q, ¬ J.foot q ∧ d = .r q ∧ L = lJ K q xs J) := fun G H σ gh en io Q q => hr G H σ gh en io _ fun vs G1 H1 g1 gh1 j1 dvs => by
  rw [List.append_nil]
  refine ⟨G1, ds, .tt, _, gh1, dvs, trivial, hT.get _ _ j1, h, fun d Y v G2 H2 po s fr yo dv => ?_⟩
  obtain ⟨q2, rfl, rfl⟩ := po
  exact q _ _ ⟨q2, apart_new (Z := .tt) j1 fr (fun a z => z.elim) q2 rfl, rfl, rfl⟩ v G2 H2 (g1.trans s.gg) s.gh ⟨yo, J.st _ _ _ _ _ (fun a _ z => z) s j1⟩ dv
end
end PL
set_option maxHeartbeats 1000000
/-! objects as cells of the heap; comprehensions over what is told; stores and deletions -/
namespace PL
open PySem PySem.Spec PyProof.Rows L2
variable [Nm]
section
variable {K : PySem.W.Frag} {G H G1 H1 G2 H2 H' : Hp} {ρ ρ1 : Rho} {I J L Z N : Asn} {ta tb tc te td ty : TE} {tr : TA} {d d1 : Dat} {k : Out} {ts us : TS} {C a q : Addr} {f m : Str} {x y : PyData} {ds : List PyData}
theorem and_r (h : (I.and J).ok G H) : J.ok G H := h.2
theorem e_lcV {wi : TI} {g : TG} {tt : TT} {vs : List Nat} {n : Nat} {xs : Nat → PyData} {b : Nat → Bool} {e : Nat → PyData} (hl : IW K wi ρ I n xs I) (hz : n ≤ 100000)
    (he : ∀ i, i < n → ∃ ρ', GW K g vs (xs i) (wipeR ρ vs) ρ' ∧ (∀ I', (∀ G H, I'.ok G H → I.ok G H) → T K tt ρ' I' (b i) I') ∧ (b i = true → ∀ I', (∀ G H, I'.ok G H → I.ok G H) → E K te ρ' I' (.d (e i)) I')) : E K (tLc wi g tt te vs) ρ I (.d (.list (rowK b e n))) I := fun G H σ gh en io Q q =>
  hl G H σ gh en io _ fun Ji G1 H1 g1 gh1 j1 wk D hD => by
    have gD : G1 D = none := gh1.free hD
    have nD : ∀ a, I.foot a → ¬ a = D := fun a fa z => by
      obtain ⟨o, ho⟩ := I.own G1 H1 a j1 fa
      rw [z, hD] at ho
      cases ho
    have st0 := Stp.newM (o := HO.lst []) gh1 hD
    refine ⟨fun i m H' => m = n - i ∧ i ≤ n ∧ ∃ G', Same G1 G' ∧ Same G' H' ∧ I.ok G' H' ∧ (lA K D (rowK b e i)).ok G' H' ∧ Stp (· = D) G1 (upd H1 D (.lst [])) G' H', ⟨n, rfl, Nat.zero_le _, G1, Same.refl _, st0.gh, Asn.pure_st st0 j1, ⟨gD, [], upd_same, .nil⟩, Stp.refl st0.gh⟩, fun i m H' hw => ?_⟩
    obtain ⟨rfl, hi, G', a1, a2, a3, a4, a5⟩ := hw
    by_cases c : i < n
    · obtain ⟨ρ', hg, ht, hel⟩ := he i c
      refine .inr ⟨wk.go i G' H' c a1 a2, fun H2 => ∃ G2, Same G1 G2 ∧ Same G2 H2 ∧ I.ok G2 H2 ∧ (lA K D (rowK b e (i + 1))).ok G2 H2 ∧ Stp (· = D) G1 (upd H1 D (.lst [])) G2 H2, fun H2 z => ⟨n - (i + 1), by omega, rfl, c, z⟩, fun v H2 y => ?_⟩
      obtain ⟨G2, st, dp⟩ := wk.yld i G' H' v H2 c a1 a2 y
      refine hg G2 H2 _ v _ st.gh (env_wipe (env_mono ((g1.trans a1).trans st.gg) en) vs) dp fun σ' en' hw => ⟨hw.trans (wipe_wipe σ vs), ?_⟩
      refine ht (((lA K D (rowK b e i)).and I).and (Asn.since (· = D) G1 (upd H1 D (.lst [])))) (fun _ _ z => z.1.2) G2 H2 σ' st.gh en' ⟨⟨Asn.pure_st st a4, Asn.pure_st st a3⟩, a5.trans (st.wide fun _ z => z.elim)⟩ _ fun G7 H7 g7 gh7 j7 => ?_
      by_cases hb : b i = true
      · rw [if_pos hb]
        refine hel hb (((lA K D (rowK b e i)).and I).and (Asn.since (· = D) G1 (upd H1 D (.lst [])))) (fun _ _ z => z.1.2) G7 H7 σ' gh7 (env_mono g7 en') j7 _ fun z G3 H3 g3 gh3 j3 dy => ?_
        obtain ⟨⟨⟨gq, ws, hq, r2⟩, i3⟩, st3⟩ := j3
        have st4 := Stp.store (o := HO.lst (ws ++ [z])) gh3 gq hq
        refine ⟨ws, hq, ?_, G3, ((a1.trans st.gg).trans g7).trans g3, st4.gh, I.st _ _ _ _ _ nD st4 i3, ⟨gq, _, upd_same, ?_⟩, st3.trans st4⟩
        · rw [dpa_len r2]
          have := rowK_len (b := b) (e := e) i
          rw [sizeLine_eq]
          omega
        · rw [rowK_s, if_pos hb]
          exact dpa_app r2 (.cons dy .nil)
      · rw [if_neg hb]
        obtain ⟨⟨l7, i7⟩, s7⟩ := j7
        refine ⟨G7, (a1.trans st.gg).trans g7, gh7, i7, ?_, s7⟩
        rw [rowK_s, if_neg hb, List.append_nil]
        exact l7
    · have ei : i = n := by omega
      subst ei
      obtain ⟨gq, ws, hq, r2⟩ := a4
      have st : Stp (· = D) G' H' (upd G' D (.lst ws)) H' := Stp.frz a2 gq hq
      exact .inl ⟨wk.stop G' H' a1 a2, q _ (upd G' D (.lst ws)) H' ((g1.trans a1).trans st.gg) st.gh (I.st _ _ _ _ _ nD st a3) (.lst (.inl (.inl upd_same)) (dp_monos st.gg _ ws r2))⟩
/-- [e for .. in d.items() if t], d a dict of one's own; J is what is known while it is walked -/
theorem e_itemsLc {g : TG} {tt : TT} {vs : List Nat} {kvs : List (Int × PyData)} {b : Nat → Bool} {e : Nat → PyData} (hI : ∀ G H, I.ok G H → (kA K q (kvs.map fun z => (.inl z.1, z.2))).ok G H ∧ J.ok G H) (hf : ¬ J.foot q) (htd : ∀ I2, (∀ G H, I2.ok G H → J.ok G H) → E K td ρ I2 (.r q) I2) (hz : kvs.length ≤ 100000)
    (he : ∀ i, i < kvs.length → ∃ ρ', GW K g vs (at0 (kvs.map itemD) i) (wipeR ρ vs) ρ' ∧ (∀ I', (∀ G H, I'.ok G H → J.ok G H) → T K tt ρ' I' (b i) I') ∧ (b i = true → ∀ I', (∀ G H, I'.ok G H → J.ok G H) → E K te ρ' I' (.d (e i)) I')) :
    E K (tLockE (tLc (iItems td) g tt te vs)) ρ I (.d (.list (rowK b e kvs.length))) I := fun G H σ gh en io Q qq => by
  obtain ⟨⟨gq, ws, hq, r⟩, jo⟩ := hI G H io
  refine ⟨q, .dK ws, hq, trivial, fun od => ?_⟩
  have s1 := Stp.store (o := HO.frz od (.dK ws)) gh gq hq
  have s2 := Stp.frz s1.gh gq (o := HO.frz od (.dK ws)) upd_same
  have st := s1.trans s2
  have lr := kv_len r
  rw [List.length_map] at lr
  have walk : ∀ G', Same (upd G q (.frz od (.dK ws))) G' → Walk K (Iti q od ws) kvs.length (at0 (kvs.map itemD)) G' := fun G' s => by
    have hG : G' q = some (.frz od (.dK ws)) := s _ _ upd_same
    have rG : KvAll K G' ws (kvs.map fun z => (.inl z.1, z.2)) := kv_mono (st.gg.trans s) r
    have kw := walk_items (d := q) (o := od) (kvs := ws)
    rw [lr] at kw
    have at_ : ∀ {G2 H2 : Hp}, Same G' G2 → Same G2 H2 → H2 q = some (.frz od (.dK ws)) := fun a1 a2 => a2 _ _ (a1 _ _ hG)
    refine ⟨fun j G2 H2 hj a1 a2 => kw.goes j H2 hj (at_ a1 a2), fun G2 H2 a1 a2 => kw.stops H2 (at_ a1 a2), fun j G2 H2 v H3 hj a1 a2 y => ?_⟩
    obtain ⟨p, a, b, rfl, np, rfl, f1, f2⟩ := kw.yields j H2 v H3 hj (at_ a1 a2) y
    have s3 := Stp.new (o := .tup [a, b]) a2 np
    obtain ⟨w, hw⟩ : ∃ w, ws[j]? = some w := ⟨_, List.getElem?_eq_getElem (by omega)⟩
    obtain ⟨z, hz2⟩ : ∃ z, kvs[j]? = some z := ⟨_, List.getElem?_eq_getElem hj⟩
    dsimp only at f1 f2
    rw [hw] at f1 f2
    obtain rfl : kV w.1 = a := Option.some.inj f1
    obtain rfl : w.2 = b := Option.some.inj f2
    have k1 : w.1 = .inl z.1 := by
      have := congrArg (fun l => l[j]?) rG.1
      simp only [List.getElem?_map, hw, hz2, Option.map_some] at this
      exact Option.some.inj this
    have d1 : Dp K G' w.2 z.2 := by
      obtain ⟨u, h1, h2⟩ := dpa_get (i := j) (d := z.2) rG.2 (by rw [List.getElem?_map, List.getElem?_map, hz2]; rfl)
      rw [List.getElem?_map, hw] at h1
      obtain rfl := Option.some.inj h1
      exact h2
    rw [at0_map (f := itemD) hz2]
    refine ⟨_, s3, .tup (.inl (.inl upd_same)) (.cons ?_ (.cons (dp_mono (a1.trans s3.gg) _ _ d1) .nil))⟩
    rw [k1]
    exact .int _
  have go := e_lcV (K := K) (ρ := ρ) (I := ((fzA q (.frz od (.dK ws))).and (Asn.since (· = q) G H)).and J) (wi := iItems td) (g := g) (tt := tt) (te := te) (vs := vs) (n := kvs.length) (xs := at0 (kvs.map itemD)) (b := b) (e := e) (fun G1 H1 σ1 gh1 en1 io1 R rr => by
    refine htd (((fzA q (.frz od (.dK ws))).and (Asn.since (· = q) G H)).and J) (fun _ _ z => and_r z) G1 H1 σ1 gh1 en1 io1 _ fun v G1 H1 g5 gh1 io1 dv => ?_
    obtain rfl : v = .ref q := dv
    obtain ⟨h1, _⟩ := io1.1.1
    refine ⟨q, od, ws, rfl, gh1 _ _ h1, rr _ G1 H1 g5 gh1 io1 (walk G1 fun a u e => ?_)⟩
    by_cases c : a = q
    · rw [c, upd_same] at e
      obtain rfl := Option.some.inj e
      rw [c]
      exact .of h1
    · rw [upd_ne c] at e
      exact io1.1.2.gg a u e) hz fun i hi => by
    obtain ⟨ρ', h1, h2, h3⟩ := he i hi
    exact ⟨ρ', h1, fun I' hI => h2 I' fun G H z => and_r (hI G H z), fun hb I' hI => h3 hb I' fun G H z => and_r (hI G H z)⟩
  refine go _ _ σ st.gh (env_mono st.gg en) ⟨⟨⟨upd_same, fun ps z => (by cases z)⟩, st⟩, J.st _ _ _ _ _ (fun a fa (z : a = q) => hf (z ▸ fa)) st jo⟩ _ fun v G2 H2 g2 gh2 j2 dv => ?_
  obtain ⟨⟨⟨f1, _⟩, f2⟩, _⟩ := j2
  have hq2 : H2 q = some (.frz od (.dK ws)) := gh2 _ _ f1
  refine ⟨hq2, ?_⟩
  obtain ⟨G3, hG3⟩ : ∃ G3 : Hp, G3 = fun a => if a = q then none else G2 a := ⟨_, rfl⟩
  have n3 : G3 q = none := by rw [hG3]; exact if_pos rfl
  have o3 : ∀ a, a ≠ q → G3 a = G2 a := fun a h => by rw [hG3]; exact if_neg h
  have sg : Same G G3 := fun a u e => by
    have ne : a ≠ q := fun z => by
      rw [z, gq] at e
      cases e
    rw [o3 a ne]
    exact f2.gg a u e
  have gh3 : Same G3 (upd H2 q (.dK ws)) := fun a u e => by
    have ne : a ≠ q := fun z => by
      rw [z, n3] at e
      cases e
    rw [upd_ne ne]
    rw [o3 a ne] at e
    exact gh2 a u e
  have st3 : Stp (· = q) G H G3 (upd H2 q (.dK ws)) := by
    refine ⟨sg, gh3, fun a o n e => ?_, fun a o n e z => ?_, fun a o e => ?_, fun P t => ?_⟩
    · rw [upd_ne n]
      exact f2.hh a o n e
    · rw [o3 a n]
      exact f2.fr a o n e z
    · by_cases c : a = q
      · rw [c]
        exact ⟨_, upd_same⟩
      · rw [upd_ne c]
        exact f2.ex a o e
    · have t2 := f2.lt P t
      have pq : P ≠ q := fun z => by
        obtain ⟨ps, hP⟩ := t2.some
        rw [z, hq2] at hP
        cases hP
      refine t2.keep (fun z => by rw [o3 P pq]; exact z) fun b o e n k => ?_
      have ne : b ≠ q := fun z => by
        rw [z, hq2] at e
        rcases k with ⟨ps, k⟩ | ⟨w, k⟩
        · rw [k] at e
          cases e
        · rw [k] at e
          unfold LamX.CodeO at e
          cases e
      rw [upd_ne ne]
      exact e
  have hl : ∀ a xs, SqL K G2 a xs → SqL K G3 a xs := fun a xs h => by
    rcases h with h | h
    · have ne : a ≠ q := fun z => by
        rcases h with h | ⟨o, h⟩
        · rw [z, f1] at h
          cases h
        · rw [z, f1] at h
          cases h
      refine .inl ?_
      unfold Rd at h ⊢
      rw [o3 a ne]
      exact h
    · exact .inr h
  have ht : ∀ a xs, SqT K G2 a xs → SqT K G3 a xs := fun a xs h => by
    rcases h with h | h
    · have ne : a ≠ q := fun z => by
        rcases h with h | ⟨o, h⟩
        · rw [z, f1] at h
          cases h
        · rw [z, f1] at h
          cases h
      refine .inl ?_
      unfold Rd at h ⊢
      rw [o3 a ne]
      exact h
    · exact .inr h
  have st4 : Stp NoA G H G3 (upd H2 q (.dK ws)) := ⟨st3.gg, st3.gh, fun a o _ e => by
    by_cases c : a = q
    · subst c
      rw [hq] at e
      cases e
      exact .of upd_same
    · exact st3.hh a o c e, fun a o _ e z => by
    by_cases c : a = q
    · rw [c]; exact n3
    · exact st3.fr a o c e z, st3.ex, st3.lt⟩
  refine qq v G3 _ sg gh3 (Asn.pure_st st4 io) ?_
  exact dp_sub hl ht _ _ dv
theorem e_lc2V {wi wi1 : TI} {g g1 : TG} {tt1 : TT} {vs vs1 : List Nat} {n : Nat} {xs : Nat → PyData} {m : Nat → Nat} {ys : Nat → Nat → PyData} {b : Nat → Nat → Bool} {e : Nat → Nat → PyData} (hl : IW K wi ρ I n xs I) (hn : n ≤ 1000) (hm : ∀ i, i < n → m i ≤ 1000)
    (he : ∀ i, i < n → ∃ ρ1, GW K g vs (xs i) (wipeR ρ vs) ρ1 ∧ (∀ I', (∀ G H, I'.ok G H → I.ok G H) → IW K wi1 ρ1 I' (m i) (ys i) I') ∧ ∀ j, j < m i → ∃ ρ2, GW K g1 vs1 (ys i j) (wipeR ρ1 vs1) ρ2 ∧ (∀ I', T K tt1 ρ2 I' (b i j) I') ∧ (b i j = true → ∀ I', E K te ρ2 I' (.d (e i j)) I')) :
    E K (tLc2 wi g tYes wi1 g1 tt1 te vs vs1) ρ I (.d (.list (rowsK m b e n))) I := fun G H σ gh en io Q q =>
  hl G H σ gh en io _ fun Ji G1 H1 g1' gh1 j1 wk D hD => by
    have gD : G1 D = none := gh1.free hD
    have nD : ∀ a, I.foot a → ¬ a = D := fun a fa z => by
      obtain ⟨o, ho⟩ := I.own G1 H1 a j1 fa
      rw [z, hD] at ho
      cases ho
    have st0 := Stp.newM (o := HO.lst []) gh1 hD
    have big : ∀ {i j : Nat} (hi : i < n), j ≤ m i → (rowsK m b e i ++ rowK (b i) (e i) j).length < sizeLine := fun {i j} hi hj => by
      rw [List.length_append]
      have h1 := rowsK_len (b := b) (e := e) hm i (by omega)
      have h2 := rowK_len (b := b i) (e := e i) j
      have h3 := hm i hi
      have : i * 1000 ≤ 1000 * 1000 := Nat.mul_le_mul_right _ (by omega)
      rw [sizeLine_eq]
      omega
    refine ⟨fun i k H' => k = n - i ∧ i ≤ n ∧ ∃ G', Same G1 G' ∧ Same G' H' ∧ I.ok G' H' ∧ (lA K D (rowsK m b e i)).ok G' H' ∧ Stp (· = D) G1 (upd H1 D (.lst [])) G' H', ⟨n, rfl, Nat.zero_le _, G1, Same.refl _, st0.gh, Asn.pure_st st0 j1, ⟨gD, [], upd_same, .nil⟩, Stp.refl st0.gh⟩, fun i k H' hw => ?_⟩
    obtain ⟨rfl, hi, G', a1, a2, a3, a4, a5⟩ := hw
    by_cases c : i < n
    · obtain ⟨ρ1, hg, hi1, hin⟩ := he i c
      refine .inr ⟨wk.go i G' H' c a1 a2, fun H2 => ∃ G2, Same G1 G2 ∧ Same G2 H2 ∧ I.ok G2 H2 ∧ (lA K D (rowsK m b e (i + 1))).ok G2 H2 ∧ Stp (· = D) G1 (upd H1 D (.lst [])) G2 H2, fun H2 z => ⟨n - (i + 1), by omega, rfl, c, z⟩, fun v H2 y => ?_⟩
      obtain ⟨G2, st, dp⟩ := wk.yld i G' H' v H2 c a1 a2 y
      refine hg G2 H2 _ v _ st.gh (env_wipe (env_mono ((g1'.trans a1).trans st.gg) en) vs) dp fun σ' en' hw => ⟨hw.trans (wipe_wipe σ vs), ?_⟩
      -- the inner loop
      have b4 := Asn.pure_st st a4
      have b3 := Asn.pure_st st a3
      have b5 := a5.trans (st.wide fun _ z => z.elim)
      have bb : Same G1 G2 := a1.trans st.gg
      refine hi1 (((lA K D (rowsK m b e i)).and I).and (Asn.since (· = D) G1 (upd H1 D (.lst [])))) (fun _ _ z => z.1.2) G2 H2 σ' st.gh en' ⟨⟨b4, b3⟩, b5⟩ _ fun J1 G4 H4 g4 gh4 j4 wk1 => ?_
      obtain ⟨⟨l4, i4⟩, s4⟩ := j4
      refine ⟨fun j k H' => k = m i - j ∧ j ≤ m i ∧ ∃ G', Same G4 G' ∧ Same G' H' ∧ I.ok G' H' ∧ (lA K D (rowsK m b e i ++ rowK (b i) (e i) j)).ok G' H' ∧ Stp (· = D) G1 (upd H1 D (.lst [])) G' H', ⟨m i, rfl, Nat.zero_le _, G4, Same.refl _, gh4, i4, by rw [rowK_0, List.append_nil]; exact l4, s4⟩, fun j k H' hw2 => ?_⟩
      obtain ⟨rfl, hj, G5, c1, c2, c3, c4, c5⟩ := hw2
      by_cases d : j < m i
      · obtain ⟨ρ2, hg2, ht, hel⟩ := hin j d
        refine .inr ⟨wk1.go j G5 H' d c1 c2, fun H2 => ∃ G2, Same G4 G2 ∧ Same G2 H2 ∧ I.ok G2 H2 ∧ (lA K D (rowsK m b e i ++ rowK (b i) (e i) (j + 1))).ok G2 H2 ∧ Stp (· = D) G1 (upd H1 D (.lst [])) G2 H2, fun H2 z => ⟨m i - (j + 1), by omega, rfl, d, z⟩, fun v2 H6 y2 => ?_⟩
        obtain ⟨G6, st6, dp6⟩ := wk1.yld j G5 H' v2 H6 d c1 c2 y2
        refine hg2 G6 H6 _ v2 _ st6.gh (env_wipe (env_mono ((g4.trans c1).trans st6.gg) en') vs1) dp6 fun σ3 en3 hw3 => ⟨hw3.trans (wipe_wipe σ' vs1), ?_⟩
        refine ht (((lA K D (rowsK m b e i ++ rowK (b i) (e i) j)).and I).and (Asn.since (· = D) G1 (upd H1 D (.lst [])))) G6 H6 σ3 st6.gh en3 ⟨⟨Asn.pure_st st6 c4, Asn.pure_st st6 c3⟩, c5.trans (st6.wide fun _ z => z.elim)⟩ _ fun G7 H7 g7 gh7 j7 => ?_
        by_cases hb : b i j = true
        · rw [if_pos hb]
          refine hel hb (((lA K D (rowsK m b e i ++ rowK (b i) (e i) j)).and I).and (Asn.since (· = D) G1 (upd H1 D (.lst [])))) G7 H7 σ3 gh7 (env_mono g7 en3) j7 _ fun z G3 H3 g3 gh3 j3 dy => ?_
          obtain ⟨⟨⟨gq, ws, hq, r2⟩, i3⟩, st3⟩ := j3
          have st4 := Stp.store (o := HO.lst (ws ++ [z])) gh3 gq hq
          refine ⟨ws, hq, by rw [dpa_len r2]; exact big c (by omega), G3, (((c1.trans st6.gg).trans g7).trans g3), st4.gh, I.st _ _ _ _ _ nD st4 i3, ⟨gq, _, upd_same, ?_⟩, st3.trans st4⟩
          rw [rowK_s, if_pos hb, ← List.append_assoc]
          exact dpa_app r2 (.cons dy .nil)
        · rw [if_neg hb]
          obtain ⟨⟨l7, i7⟩, s7⟩ := j7
          refine ⟨G7, (c1.trans st6.gg).trans g7, gh7, i7, ?_, s7⟩
          rw [rowK_s, if_neg hb, List.append_nil]
          exact l7
      · have ej : j = m i := by omega
        subst ej
        refine .inl ⟨wk1.stop G5 H' c1 c2, G5, (bb.trans g4).trans c1, c2, c3, ?_, c5⟩
        rw [rowsK_s]
        exact c4
    · have ei : i = n := by omega
      subst ei
      obtain ⟨gq, ws, hq, r2⟩ := a4
      have st : Stp (· = D) G' H' (upd G' D (.lst ws)) H' := Stp.frz a2 gq hq
      exact .inl ⟨wk.stop G' H' a1 a2, q _ (upd G' D (.lst ws)) H' ((g1'.trans a1).trans st.gg) st.gh (I.st _ _ _ _ _ nD st a3) (.lst (.inl (.inl upd_same)) (dp_monos st.gg _ ws r2))⟩
theorem rowK_of {α : Type} {xs : List α} {p : α → Bool} {f : α → PyData} {b : Nat → Bool} {e : Nat → PyData} (h : ∀ i x, xs[i]? = some x → b i = p x ∧ e i = f x) : rowK b e xs.length = (xs.filter p).map f := by
  have key : ∀ k, k ≤ xs.length → rowK b e k = ((xs.take k).filter p).map f := by
    intro k
    induction k with
    | zero => exact fun _ => rfl
    | succ k ih =>
      intro hk
      have hx : xs[k]? = some (xs[k]'(by omega)) := List.getElem?_eq_getElem (by omega)
      obtain ⟨h1, h2⟩ := h k _ hx
      rw [rowK_s, ih (by omega), List.take_add_one, hx, List.filter_append, List.map_append, h1, h2]
      congr 1
      show _ = List.map f (List.filter p [xs[k]])
      by_cases c : p (xs[k]'(by omega)) = true
      · rw [if_pos c, List.filter_cons_of_pos c]
        rfl
      · rw [if_neg c, List.filter_cons_of_neg c]
        rfl
  rw [key _ (Nat.le_refl _), List.take_length]
theorem rowsK_of {α : Type} {xs : List α} {F : α → List PyData} {m : Nat → Nat} {b : Nat → Nat → Bool} {e : Nat → Nat → PyData} (h : ∀ i x, xs[i]? = some x → rowK (b i) (e i) (m i) = F x) : rowsK m b e xs.length = xs.flatMap F := by
  have key : ∀ k, k ≤ xs.length → rowsK m b e k = (xs.take k).flatMap F := by
    intro k
    induction k with
    | zero => exact fun _ => rfl
    | succ k ih =>
      intro hk
      have hx : xs[k]? = some (xs[k]'(by omega)) := List.getElem?_eq_getElem (by omega)
      rw [rowsK_s, ih (by omega), List.take_add_one, hx, List.flatMap_append, h k _ hx]
      congr 1
      show _ = List.flatMap F [xs[k]]
      rw [List.flatMap_cons, List.flatMap_nil, List.append_nil]
  rw [key _ (Nat.le_refl _), List.take_length]
/-! ### objects as cells -/
structure Cel where
  a : Addr
  φ : Hp → HO → Prop
  mono : ∀ G G2 o, Same G G2 → φ G o → φ G2 o
  nt : ∀ G o, φ G o → (∀ ps, o ≠ .tbl ps) ∧ ∀ q, o ≠ LamX.CodeO a q
def cA (cs : List Cel) : Asn := ⟨fun a => ∃ c ∈ cs, a = c.a, fun G H => ∀ c ∈ cs, G c.a = none ∧ ∃ o, H c.a = some o ∧ c.φ G o, fun M G H G2 H2 n s h c hc => by
  obtain ⟨g, o, h1, h2⟩ := h c hc
  have nm := n c.a ⟨c, hc, rfl⟩
  refine ⟨s.fr c.a o nm h1 g, o, ?_, c.mono _ _ _ s.gg h2⟩
  obtain ⟨u, e1, e2⟩ := (s.hh c.a o nm h1).some
  rw [e1, e2 (c.nt _ _ h2).1], fun G H a h ⟨c, hc, e⟩ => by
  obtain ⟨g, o, h1, h2⟩ := h c hc
  exact ⟨o, by rw [e]; exact h1⟩⟩
theorem ca_put {cs cs' : List Cel} {o : HO} (h : (cA cs).ok G H) (ga : G a = none) (hs : ∀ c ∈ cs', (c.a = a ∧ c.φ G o) ∨ (c.a ≠ a ∧ c ∈ cs)) : (cA cs').ok G (upd H a o) := fun c hc => by
  rcases hs c hc with ⟨e, h2⟩ | ⟨ne, hm⟩
  · exact ⟨by rw [e]; exact ga, o, by rw [e]; exact upd_same, h2⟩
  · obtain ⟨g, u, h1, h2⟩ := h c hm
    exact ⟨g, u, by rw [upd_ne ne]; exact h1, h2⟩
def insC (K : PySem.W.Frag) (C q : Addr) (fs : FS) : Cel := ⟨q, fun G o => ∃ dx us, o = .ins C dx us ∧ FsAll K G us fs, fun _ _ _ s ⟨dx, us, e, h⟩ => ⟨dx, us, e, fs_mono s h⟩, fun _ _ ⟨dx, us, e, _⟩ => by rw [e]; exact ⟨fun _ z => (by cases z), fun _ z => by unfold LamX.CodeO at z; cases z⟩⟩
def dicC (K : PySem.W.Frag) (a : Addr) (kvs : List (Key × PyData)) : Cel := ⟨a, fun G o => ∃ vs, o = .dK vs ∧ KvAll K G vs kvs, fun _ _ _ s ⟨vs, e, h⟩ => ⟨vs, e, kv_mono s h⟩, fun _ _ ⟨vs, e, _⟩ => by rw [e]; exact ⟨fun _ z => (by cases z), fun _ z => by unfold LamX.CodeO at z; cases z⟩⟩
abbrev refKV (z : Int × Addr) : Key × V := (.inl z.1, .ref z.2)
def refC (a : Addr) (rs : List (Int × Addr)) : Cel := ⟨a, fun _ o => o = .dK (rs.map refKV), fun _ _ _ _ h => h, fun _ _ e => by rw [e]; exact ⟨fun _ z => (by cases z), fun _ z => by unfold LamX.CodeO at z; cases z⟩⟩
section
variable {cs cs' : List Cel} {kvs : List (Key × PyData)} {rs : List (Int × Addr)} {fs : FS} {n : Int} {p : Addr}
theorem ca_ins (h : (cA cs).ok G H) (hm : insC K C q fs ∈ cs) : ∃ dx us, H q = some (.ins C dx us) ∧ FsAll K G us fs := by
  obtain ⟨g, o, h1, dx, us, rfl, h2⟩ := h _ hm
  exact ⟨dx, us, h1, h2⟩
theorem ca_look (h : (cA cs).ok G H) (hm : insC K C q fs ∈ cs) (hl : fs.lookup m = none) : ∃ dx us, H q = some (.ins C dx us) ∧ us.lookup m = none := by
  obtain ⟨dx, us, h1, h2⟩ := ca_ins h hm
  exact ⟨dx, us, h1, (fs_look h2).1 hl⟩
theorem ca_k (h : (cA cs).ok G H) (hm : dicC K a kvs ∈ cs) : (kA K a kvs).ok G H := by
  obtain ⟨g, o, h1, vs, rfl, h2⟩ := h _ hm
  exact ⟨g, vs, h1, h2⟩
theorem ca_r (h : (cA cs).ok G H) (hm : refC a rs ∈ cs) : G a = none ∧ H a = some (.dK (rs.map refKV)) := by
  obtain ⟨g, o, h1, h2⟩ := h _ hm
  have h2 : o = .dK (rs.map refKV) := h2
  rw [h2] at h1
  exact ⟨g, h1⟩
theorem ca_sub (h : (cA cs).ok G H) (hs : ∀ c ∈ cs', c ∈ cs) : (cA cs').ok G H := fun c hc => h c (hs c hc)
/-- a[n] = e: a dict of data -/
theorem s_putC {q1 : Asn} (he : E K te ρ ((cA cs).and J) (.d x) ((cA cs).and J)) (ht : E K td ρ ((cA cs).and J) (.r a) ((cA cs).and J)) (hy : E K ty ρ ((cA cs).and J) (.i n) ((cA cs).and J)) (hm : dicC K a kvs ∈ cs) (hl : kvs.length < 100000) (hf : ¬ J.foot a) (hs : ∀ c ∈ cs', c = dicC K a (putD kvs (.inl n) x) ∨ (c.a ≠ a ∧ c ∈ cs)) :
    S K (sDPut td ty te) ρ ((cA cs).and J) (.nx ρ ((cA cs').and J)) := fun G H σ D gh en io f => he G H σ gh en io _ fun v G1 H1 g1 gh1 j1 dv => ht G1 H1 σ gh1 (env_mono g1 en) j1 _ fun u G2 H2 g2 gh2 j2 du => hy G2 H2 σ gh2 (env_mono (g1.trans g2) en) j2 _ fun w G3 H3 g3 gh3 j3 dw => by
  obtain rfl : u = .ref a := du
  obtain rfl := dv_int dw
  obtain ⟨gq, vs, hq, r⟩ := ca_k j3.1 hm
  have hlen := kv_len r
  have dv3 : Dp K G3 v x := dp_mono (g2.trans g3) _ _ dv
  refine ⟨a, _, rfl, DPut.k (k := .inl n) hq (Nat.lt_of_lt_of_le (by omega : vs.length < 100000) (by rw [sizeLine_eq]; decide)), ?_⟩
  have st := Stp.store (o := HO.dK (putK vs (.inl n) v)) gh3 gq hq
  refine f G3 _ σ ((g1.trans g2).trans g3) st.gh (env_mono ((g1.trans g2).trans g3) en) ⟨ca_put j3.1 gq fun c hc => ?_, J.st _ _ _ _ _ (fun a' fa (z : a' = a) => hf (z ▸ fa)) st j3.2⟩
  rcases hs c hc with rfl | h
  · exact .inl ⟨rfl, _, rfl, kv_put r dv3⟩
  · exact .inr h
/-- o.f = e -/
theorem s_fldC {i : Nat} (c0 : Cls K C) (n0 : NoAttr K C f) (he : E K te ρ ((cA cs).and J) d ((cA cs).and J)) (hi : ρ[i]? = some (some (.r q))) (hm : insC K C q fs ∈ cs) (hl : fs.length < 1000) (hf : ¬ J.foot q) (hs : ∀ c ∈ cs', c = insC K C q (setFd f d fs) ∨ (c.a ≠ q ∧ c ∈ cs)) :
    S K (sFld K (tVar i) te f) ρ ((cA cs).and J) (.nx ρ ((cA cs').and J)) := fun G H σ D gh en io k => he G H σ gh en io _ fun v G1 H1 g1 gh1 j1 dv => by
  obtain ⟨o, ho, eo⟩ := env_get en hi
  have eo : o = .ref q := eo
  subst eo
  obtain ⟨dx, us, hq, r⟩ := ca_ins j1.1 hm
  have gq := (j1.1 _ hm).1
  have st := Stp.store (o := HO.ins C dx (putF f v us)) gh1 gq hq
  have hlen := fs_len r
  refine ⟨.ref q, ho, q, C, dx, us, rfl, hq, c0, n0, by omega, k G1 _ σ (g1.trans st.gg) st.gh (env_mono (g1.trans st.gg) en) ⟨ca_put j1.1 gq fun c hc => ?_, J.st _ _ _ _ _ (fun a' fa (z : a' = q) => hf (z ▸ fa)) st j1.2⟩⟩
  rcases hs c hc with rfl | h
  · exact .inl ⟨rfl, dx, _, rfl, fs_put dv r⟩
  · exact .inr h
def dropD (kvs : List (Key × PyData)) (k : Key) : List (Key × PyData) := kvs.filter fun kv => decide (kv.1 ≠ k)
theorem kv_drop {ky : Key} : ∀ {vs : List (Key × V)} {kvs : List (Key × PyData)}, KvAll K G vs kvs → KvAll K G (dropK vs ky) (dropD kvs ky)
  | [], [], _ => ⟨rfl, .nil⟩
  | [], _ :: _, h => by have := h.1; simp at this
  | _ :: _, [], h => by have := h.1; simp at this
  | v :: vs, kv :: kvs, h => by
    obtain ⟨h1, h2⟩ := h
    have e : v.1 = kv.1 ∧ vs.map (·.1) = kvs.map (·.1) := by simpa using h1
    obtain ⟨e1, e2⟩ := e
    cases h2 with
    | cons r rr =>
      have ih := kv_drop (ky := ky) (vs := vs) (kvs := kvs) ⟨e2, rr⟩
      unfold dropK dropD at ih ⊢
      by_cases c : kv.1 = ky
      · rw [List.filter_cons_of_neg (by simpa [e1] using c), List.filter_cons_of_neg (by simpa using c)]
        exact ih
      · rw [List.filter_cons_of_pos (by simpa [e1] using c), List.filter_cons_of_pos (by simpa using c)]
        exact ⟨by rw [List.map_cons, List.map_cons, ih.1, e1], .cons r ih.2⟩
/-- del a[n]: a dict of data -/
theorem s_delC (ht : E K td ρ ((cA cs).and J) (.r a) ((cA cs).and J)) (hy : E K ty ρ ((cA cs).and J) (.i n) ((cA cs).and J)) (hm : dicC K a kvs ∈ cs) (hv : (valD kvs (.inl n)).isSome = true) (hf : ¬ J.foot a) (hs : ∀ c ∈ cs', c = dicC K a (dropD kvs (.inl n)) ∨ (c.a ≠ a ∧ c ∈ cs)) :
    S K (sDDel td ty) ρ ((cA cs).and J) (.nx ρ ((cA cs').and J)) := fun G H σ D gh en io f => ht G H σ gh en io _ fun u G2 H2 g2 gh2 j2 du => hy G2 H2 σ gh2 (env_mono g2 en) j2 _ fun w G3 H3 g3 gh3 j3 dw => by
  obtain rfl : u = .ref a := du
  obtain rfl := dv_int dw
  obtain ⟨gq, vs, hq, r⟩ := ca_k j3.1 hm
  have st := Stp.store (o := HO.dK (dropK vs (.inl n))) gh3 gq hq
  refine ⟨a, vs, .inl n, rfl, hq, rfl, by rw [kv_some r]; exact hv, f G3 _ σ (g2.trans g3) st.gh (env_mono (g2.trans g3) en) ⟨ca_put j3.1 gq fun c hc => ?_, J.st _ _ _ _ _ (fun a' fa (z : a' = a) => hf (z ▸ fa)) st j3.2⟩⟩
  rcases hs c hc with rfl | h
  · exact .inl ⟨rfl, _, rfl, kv_drop r⟩
  · exact .inr h
theorem val_ref : ∀ {rs : List (Int × Addr)}, (n, p) ∈ rs → (rs.map (·.1)).Nodup → valV (rs.map refKV) (.inl n) = some (.ref p)
  | [], h, _ => by cases h
  | z :: rs, h, nd => by
    rw [List.map_cons, List.nodup_cons] at nd
    unfold valV
    by_cases c : z.1 = n
    · have ez : z = (n, p) := by
        rcases List.mem_cons.mp h with h | h
        · exact h.symm
        · exact absurd (List.mem_map.mpr ⟨_, h, rfl⟩) (by rw [← c] at *; exact nd.1)
      rw [List.map_cons, List.find?_cons_of_pos (by rw [ez]; simp)]
      rw [ez]
      rfl
    · rw [List.map_cons, List.find?_cons_of_neg (by simpa using c)]
      have hm : (n, p) ∈ rs := (List.mem_cons.mp h).elim (fun e => absurd (by rw [← e]) c) id
      exact val_ref hm nd.2
/-- a[n], a dict of objects -/
theorem e_getR (ht : E K td ρ I (.r a) L) (hy : E K ty ρ L (.i n) N) (hN : ∀ G H, N.ok G H → H a = some (.dK (rs.map refKV))) (hm : (n, p) ∈ rs) (nd : (rs.map (·.1)).Nodup) : E K (tDGet td ty) ρ I (.r p) N := fun G H σ gh en io Q k => ht G H σ gh en io _ fun u G2 H2 g2 gh2 j2 du => hy G2 H2 σ gh2 (env_mono g2 en) j2 _ fun w G3 H3 g3 gh3 j3 dw => by
  obtain rfl : u = .ref a := du
  obtain rfl := dv_int dw
  exact ⟨a, .ref p, rfl, .inl ⟨_, .inl n, .inl (hN _ _ j3), rfl, (val_ref hm nd).symm⟩, k _ G3 H3 (g2.trans g3) gh3 j3 rfl⟩
theorem drop_ref : ∀ rs : List (Int × Addr), dropK (rs.map refKV) (.inl n) = (rs.filter fun z => decide (z.1 ≠ n)).map refKV
  | [] => rfl
  | z :: rs => by
    have ih := drop_ref rs
    unfold dropK at ih ⊢
    by_cases c : z.1 = n
    · rw [List.map_cons, List.filter_cons_of_neg (by simpa using c), List.filter_cons_of_neg (by simpa using c)]
      exact ih
    · rw [List.map_cons, List.filter_cons_of_pos (by simpa using c), List.filter_cons_of_pos (by simpa using c), List.map_cons, ih]
/-- del a[n]: a dict of objects -/
theorem s_delR (ht : E K td ρ ((cA cs).and J) (.r a) ((cA cs).and J)) (hy : E K ty ρ ((cA cs).and J) (.i n) ((cA cs).and J)) (hm : refC a rs ∈ cs) (hr : (n, p) ∈ rs) (nd : (rs.map (·.1)).Nodup) (hf : ¬ J.foot a) (hs : ∀ c ∈ cs', c = refC a (rs.filter fun z => decide (z.1 ≠ n)) ∨ (c.a ≠ a ∧ c ∈ cs)) :
    S K (sDDel td ty) ρ ((cA cs).and J) (.nx ρ ((cA cs').and J)) := fun G H σ D gh en io f => ht G H σ gh en io _ fun u G2 H2 g2 gh2 j2 du => hy G2 H2 σ gh2 (env_mono g2 en) j2 _ fun w G3 H3 g3 gh3 j3 dw => by
  obtain rfl : u = .ref a := du
  obtain rfl := dv_int dw
  obtain ⟨gq, hq⟩ := ca_r j3.1 hm
  have st := Stp.store (o := HO.dK (dropK (rs.map refKV) (.inl n))) gh3 gq hq
  refine ⟨a, _, .inl n, rfl, hq, rfl, by rw [val_ref hr nd]; rfl, f G3 _ σ (g2.trans g3) st.gh (env_mono (g2.trans g3) en) ⟨ca_put j3.1 gq fun c hc => ?_, J.st _ _ _ _ _ (fun a' fa (z : a' = a) => hf (z ▸ fa)) st j3.2⟩⟩
  rcases hs c hc with rfl | h
  · exact .inl ⟨rfl, congrArg HO.dK (drop_ref rs)⟩
  · exact .inr h
end
/-- an expression that makes a new dict of one's own -/
def EK (K : PySem.W.Frag) (te : TE) (ρ : Rho) (I : Asn) (kvs : List (Key × PyData)) (J : Asn) : Prop := ∀ G H σ, Same G H → EnvD K G σ ρ → I.ok G H → ∀ Q : VK, (∀ D G2 H2, Same G G2 → Same G2 H2 → (kJ K D kvs J).ok G2 H2 → ¬ J.foot D → Q (.ref D) H2) → te σ H Q
section
variable {tk : TE}
theorem ek_dc {wi : TI} {g : TG} {vs : List Nat} {n : Nat} {xs : Nat → PyData} {ks : List Int} {es : List PyData} (hl : IW K wi ρ I n xs I) (hk : ks.length = n) (hn : es.length = n) (hz : n ≤ 100000) (nd : ks.Nodup)
    (he : ∀ i m y, i < n → ks[i]? = some m → es[i]? = some y → ∃ ρ', GW K g vs (xs i) (wipeR ρ vs) ρ' ∧ (∀ I', E K tk ρ' I' (.i m) I') ∧ ∀ I', E K te ρ' I' (.d y) I')
    : EK K (tDc wi g tYes tk te vs) ρ I (kvsOf ks es) I := fun G H σ gh en io Q f =>
  hl G H σ gh en io _ fun Ji G1 H1 g1 gh1 j1 wk D hD => by
    have gD : G1 D = none := gh1.free hD
    have nD : ∀ a, I.foot a → ¬ a = D := fun a fa z => by
      obtain ⟨o, ho⟩ := I.own G1 H1 a j1 fa
      rw [z, hD] at ho
      cases ho
    have st0 := Stp.newM (o := HO.dK []) gh1 hD
    refine ⟨fun i m H' => m = n - i ∧ i ≤ n ∧ ∃ G', Same G1 G' ∧ Same G' H' ∧ I.ok G' H' ∧ (kA K D (kvsOf (ks.take i) (es.take i))).ok G' H' ∧ Stp (· = D) G1 (upd H1 D (.dK [])) G' H', ⟨n, rfl, Nat.zero_le _, G1, Same.refl _, st0.gh, Asn.pure_st st0 j1, ⟨gD, [], upd_same, rfl, .nil⟩, Stp.refl st0.gh⟩, fun i m H' hw => ?_⟩
    obtain ⟨rfl, hi, G', a1, a2, a3, a4, a5⟩ := hw
    by_cases c : i < n
    · have h1 : ks[i]? = some (ks[i]'(by omega)) := List.getElem?_eq_getElem (by omega)
      have h2 : es[i]? = some (es[i]'(by omega)) := List.getElem?_eq_getElem (by omega)
      obtain ⟨ρ', hg, hky, hel⟩ := he i _ _ c h1 h2
      refine .inr ⟨wk.go i G' H' c a1 a2, fun H2 => ∃ G2, Same G1 G2 ∧ Same G2 H2 ∧ I.ok G2 H2 ∧ (kA K D (kvsOf (ks.take (i + 1)) (es.take (i + 1)))).ok G2 H2 ∧ Stp (· = D) G1 (upd H1 D (.dK [])) G2 H2, fun H2 z => ⟨n - (i + 1), by omega, rfl, c, z⟩, fun v H2 y => ?_⟩
      obtain ⟨G2, st, dp⟩ := wk.yld i G' H' v H2 c a1 a2 y
      refine hg G2 H2 _ v _ st.gh (env_wipe (env_mono ((g1.trans a1).trans st.gg) en) vs) dp fun σ' en' hw => ⟨hw.trans (wipe_wipe σ vs), ?_⟩
      refine (show ∀ {F : Bool → Hp → Prop}, F true H2 → tYes σ' H2 F from fun h => h) ?_
      dsimp only
      rw [if_pos rfl]
      refine hky (((kA K D (kvsOf (ks.take i) (es.take i))).and I).and (Asn.since (· = D) G1 (upd H1 D (.dK [])))) G2 H2 _ st.gh en' ⟨⟨Asn.pure_st st a4, Asn.pure_st st a3⟩, a5.trans (st.wide fun _ z => z.elim)⟩ _ fun kv G3 H3 g3 gh3 j3 dk => ?_
      refine hel _ G3 H3 _ gh3 (env_mono g3 en') j3 _ fun y G4 H4 g4 gh4 j4 dy => ?_
      obtain rfl := dv_int dk
      obtain ⟨⟨⟨gq, ws, hq, r2⟩, i3⟩, st3⟩ := j4
      have hlen := kv_len r2
      have nk : (.inl (ks[i]'(by omega)) : Key) ∉ (kvsOf (ks.take i) (es.take i)).map (·.1) := by
        rw [kvs_keys (by rw [List.length_take, List.length_take]; omega)]
        intro z
        obtain ⟨m, hm, e⟩ := List.mem_map.mp z
        cases e
        obtain ⟨j, hj, e⟩ := List.mem_take_iff_getElem.mp hm
        have hji : j < i := by omega
        exact absurd ((List.getElem_inj (h₀ := by omega) (h₁ := by omega) nd).mp e) (by omega)
      have st4 := Stp.store (o := HO.dK (putK ws (.inl (ks[i]'(by omega))) y)) gh4 gq hq
      refine ⟨ws, .inl (ks[i]'(by omega)), rfl, hq, ?_, G4, ((a1.trans st.gg).trans g3).trans g4, st4.gh, I.st _ _ _ _ _ nD st4 i3, ⟨gq, _, upd_same, ?_⟩, st3.trans st4⟩
      · rw [hlen]
        unfold kvsOf
        rw [List.length_map, List.length_zip, List.length_take, List.length_take]
        exact Nat.lt_of_le_of_lt (Nat.le_trans (Nat.min_le_left _ _) (Nat.min_le_left _ _)) (Nat.lt_of_le_of_lt (show i ≤ 100000 by omega) (by rw [sizeLine_eq]; decide))
      · rw [kvs_snoc h1 h2]
        exact (kv_new r2 dy nk).1
    · have ei : i = n := by omega
      subst ei
      have e1 : ks.take i = ks := List.take_of_length_le (by omega)
      have e2 : es.take i = es := List.take_of_length_le (by omega)
      rw [e1, e2] at a4
      exact .inl ⟨wk.stop G' H' a1 a2, f D G' H' (g1.trans a1) a2 ⟨a4, a3⟩ fun z => nD D z rfl⟩
end
section
variable {cs cs' : List Cel} {kvs : List (Key × PyData)} {rs : List (Int × Addr)} {fs : FS} {n : Int} {p : Addr}
theorem put_ref (hn : n ∉ rs.map (·.1)) : putK (rs.map refKV) (.inl n) (.ref p) = (rs ++ [(n, p)]).map refKV := by
  have e : ((rs.map refKV).any fun kv => decide (kv.1 = .inl n)) = false := by
    rw [List.any_eq_false]
    intro kv hk
    obtain ⟨z, hz, rfl⟩ := List.mem_map.mp hk
    intro c
    have c := of_decide_eq_true c
    injection c with c
    exact hn (List.mem_map.mpr ⟨z, hz, c⟩)
  unfold putK
  rw [e, if_neg Bool.false_ne_true, List.map_append]
  rfl
/-- a[n] = a new dict: a dict of objects -/
theorem s_putNew {us : TS} (he : EK K te ρ ((cA cs).and J) kvs ((cA cs).and J)) (ht : ∀ L, (∀ G H, L.ok G H → (cA cs).ok G H) → E K td ρ L (.r a) L) (hy : ∀ L, E K ty ρ L (.i n) L) (hm : refC a rs ∈ cs) (hn : n ∉ rs.map (·.1)) (hl : rs.length < 100000) (hf : ¬ J.foot a)
    (h : ∀ p, ¬ (cA cs).foot p → ¬ J.foot p → ∃ cs', (∀ c ∈ cs', c = dicC K p kvs ∨ c = refC a (rs ++ [(n, p)]) ∨ (c.a ≠ a ∧ c ∈ cs)) ∧ S K us ρ ((cA cs').and J) k) :
    S K (tSeq (sDPut td ty te) us) ρ ((cA cs).and J) k := fun G H σ D gh en io f => he G H σ gh en io _ fun p G1 H1 g1 gh1 j1 np => ht (kJ K p kvs ((cA cs).and J)) (fun _ _ z => z.2.1) G1 H1 σ gh1 (env_mono g1 en) j1 _ fun u G2 H2 g2 gh2 j2 du => hy _ G2 H2 σ gh2 (env_mono (g1.trans g2) en) j2 _ fun w G3 H3 g3 gh3 j3 dw => by
  obtain rfl : u = .ref a := du
  obtain rfl := dv_int dw
  obtain ⟨⟨gp, vs, hp, r⟩, jc, jj⟩ := j3
  obtain ⟨gq, hq⟩ := ca_r jc hm
  have npa : p ≠ a := fun z => np (.inl ⟨_, hm, z⟩)
  refine ⟨a, _, rfl, DPut.k (k := .inl n) hq (by rw [List.length_map]; exact Nat.lt_of_lt_of_le hl (by rw [sizeLine_eq]; decide)), ?_⟩
  rw [put_ref hn]
  have st := Stp.store (o := HO.dK ((rs ++ [(n, p)]).map refKV)) gh3 gq hq
  obtain ⟨cs', hs, h2⟩ := h p (fun z => np (.inl z)) (fun z => np (.inr z))
  refine h2 G3 _ σ D st.gh (env_mono ((g1.trans g2).trans g3) en) ⟨fun c hc => ?_, J.st _ _ _ _ _ (fun a' fa (z : a' = a) => hf (z ▸ fa)) st jj⟩ (f.mono ((g1.trans g2).trans g3))
  rcases hs c hc with rfl | rfl | ⟨ne, hc⟩
  · exact ⟨gp, _, by show upd H3 a _ p = _; rw [upd_ne npa]; exact hp, vs, rfl, r⟩
  · exact ⟨gq, _, upd_same, rfl⟩
  · obtain ⟨g, o, h1, h2⟩ := jc c hc
    exact ⟨g, o, by rw [upd_ne ne]; exact h1, h2⟩
/-- list(d), d a dict by whole numbers that is told somewhere -/
theorem keys_ints {ks : List Int} {vs : List (Key × V)} (h : vs.map (·.1) = ks.map Sum.inl) : vs.map (fun kv => kV kv.1) = ks.map V.int := by
  have : vs.map (fun kv => kV kv.1) = (vs.map (·.1)).map kV := by rw [List.map_map]; rfl
  rw [this, h, List.map_map]
  rfl
theorem e_listKR {ks : List Int} (hr : A K tr ρ I [.r q] J) (hN : ∀ G H, J.ok G H → ∃ kvs, H q = some (.dK kvs) ∧ kvs.map (·.1) = ks.map Sum.inl) : E K (tCB rListD tr) ρ I (.d (.list (ks.map PyData.int))) J :=
  e_cb hr fun G H vs gh jo h Q k => by
    obtain ⟨v, rfl, h1⟩ := dva1 h
    obtain rfl : v = .ref q := h1
    obtain ⟨kvs, hq, hk⟩ := hN _ _ jo
    refine ⟨q, kvs, rfl, hq, fun p hp => ?_⟩
    rw [keys_ints hk]
    obtain ⟨G2, H2, s1, s2, s3, rfl, s5⟩ := sort_end (K := K) (ys := ks) gh jo hp
    exact k _ _ _ s1 s2 s3 s5
/-- o.f = {}, the dict one's own; then the rest -/
theorem s_fldNewE {i : Nat} {P : Rho → Asn → Prop} (c0 : Cls K C) (n0 : NoAttr K C f) (hi : ρ[i]? = some (some (.r q))) (hm : insC K C q fs ∈ cs) (hl : fs.length < 1000) (hf : ¬ J.foot q)
    (h : ∀ p, ¬ (cA cs).foot p → ¬ J.foot p → ∃ cs', (∀ c ∈ cs', (c.a = p ∧ ∀ G, c.φ G (.dK [])) ∨ c = insC K C q (setFd f (.r p) fs) ∨ (c.a ≠ q ∧ c ∈ cs)) ∧ P ρ ((cA cs').and J)) :
    S K (sFld K (tVar i) tDNewK f) ρ ((cA cs).and J) (.ne P) := fun G H σ D gh en io k => fun p hp => by
  obtain ⟨o, ho, eo⟩ := env_get en hi
  have eo : o = .ref q := eo
  subst eo
  obtain ⟨ic, ij⟩ := io
  obtain ⟨dx, us, hq, r⟩ := ca_ins ic hm
  have gq := (ic _ hm).1
  have np1 : ¬ (cA cs).foot p := fun z => by
    obtain ⟨o, ho⟩ := (cA cs).own G H p ic z
    rw [hp] at ho
    cases ho
  have np2 : ¬ J.foot p := fun z => by
    obtain ⟨o, ho⟩ := J.own G H p ij z
    rw [hp] at ho
    cases ho
  have s0 := Stp.newM (o := HO.dK []) gh hp
  have qp : q ≠ p := fun z => np1 ⟨_, hm, z.symm⟩
  have hq2 : upd H p (.dK []) q = some (.ins C dx us) := by rw [upd_ne qp]; exact hq
  have st := Stp.store (o := HO.ins C dx (putF f (.ref p) us)) s0.gh gq hq2
  have hlen := fs_len r
  obtain ⟨cs', hs, hP⟩ := h p np1 np2
  refine ⟨.ref q, ho, q, C, dx, us, rfl, hq2, c0, n0, by omega, k ρ _ hP G _ σ st.gg st.gh (env_mono st.gg en) ⟨fun c hc => ?_, J.st _ _ _ _ _ (fun a' fa (z : a' = q) => hf (z ▸ fa)) st (Asn.pure_st s0 ij)⟩⟩
  rcases hs c hc with ⟨e1, e2⟩ | rfl | ⟨ne, hc⟩
  · exact ⟨by rw [e1]; exact gh.free hp, .dK [], by rw [e1, upd_ne (Ne.symm qp), upd_same], e2 G⟩
  · exact ⟨gq, _, upd_same, dx, _, rfl, fs_put (d := .r p) rfl r⟩
  · obtain ⟨g, o, h1, h2⟩ := ic c hc
    exact ⟨g, o, by rw [upd_ne ne, upd_ne (ne_of_none h1 hp)]; exact h1, h2⟩
/-- C(), the object one's own -/
theorem en_makeM {X : XK} {Is : Addr → Asn → Prop} {R : List Dat → Asn → (Dat → Asn → Prop) → Prop} (hR : ∀ a, R [.r a] (cA [insC K C a []]) (fun d Y => d = .d .none ∧ Is a Y)) : EN K (tMake C (spM K noT R) [] X tNil) ρ J (fun d L => ∃ a Y, d = .r a ∧ Is a Y ∧ Apart Y J ∧ L = Y.and J) := fun G H σ gh en io Q k => fun x dx nx nd ne => by
  have s1 := Stp.newM (o := HO.own x) gh nd
  have nx1 : (upd H dx (HO.own x)) x = none := by
    rw [upd_ne (Ne.symm ne)]
    exact nx
  have s2 := Stp.newM (o := HO.ins C dx []) s1.gh nx1
  have s12 := s1.trans s2
  have nf : ¬ J.foot x := fun z => by
    obtain ⟨o, ho⟩ := J.own G H x io z
    rw [nx] at ho
    cases ho
  refine ⟨G, [.r x], cA [insC K C x []], _, s12.gh, ⟨rfl, trivial⟩, fun c hc => ?_, ⟨fun p hp => (by cases hp), fun p hp => (by cases hp)⟩, hR x, fun d Y v G2 H2 po s fr yo dv => ?_⟩
  · rw [List.mem_singleton.mp hc]
    exact ⟨gh.free nx, _, upd_same, dx, [], rfl, fs_nil⟩
  · obtain ⟨rfl, hIs⟩ := po
    have dv : Dp K G2 v .none := dv
    cases dv
    have jo := Asn.pure_st s12 io
    have ap : Apart (cA [insC K C x []]) J := fun a ⟨c, hc, e⟩ fj => by
      rw [List.mem_singleton.mp hc] at e
      have e : a = x := e
      exact nf (e ▸ fj)
    have apY : Apart Y J := apart_new jo fr ap
    exact ⟨rfl, k _ _ ⟨x, Y, rfl, hIs, apY, rfl⟩ (.ref x) G2 H2 s.gg s.gh ⟨yo, J.st _ _ _ _ _ (fun a fj fz => ap a fz fj) s jo⟩ rfl⟩
end
end
end PL
set_option maxHeartbeats 1000000
/-! the end of a law whose methods write tables too -/
namespace PL
open PySem PySem.Spec PyProof.Rows L2
theorem walk_ofM {l : PySem.W.OpenLaw} {n k : Nat} {q : Program} {loose : List Str} {XP : (Str → Option Value) → Heap → Prop} {YP : World → Heap → Prop} {d : DefRec} {K : Params → PySem.W.Frag} {CX : World → CXT} {x : Str} {ts : List Addr}
    (hn : l.most = some n) (hn2 : n ≤ sizeLine) (hdf : d.params.defaults = []) (hr : Room k callerA) (hY : ∀ (w : World) (h : Heap), YP w h → (K w.params).In h) (hTs : ∀ (w : World) (h : Heap), YP w h → ∀ P ∈ ts, h.get? P = some (PySem.W.tabObj #[]))
    (F : ∀ (w : World) (mg : Str → Option Value) (fa : Addr) (h : Heap), (∀ P ∈ ts, h.get? P = some { cls := .none, data := .fields #[] }) → (K w.params).In h → h.Ns mainGlobals mg → mg d.name = some (.ref fa) →
      (∀ (y : Str) (c P : Addr), ((recsOf q).any fun e => e.name == y) = true → PySem.W.tabIn (K w.params) y = some (c, P) → PySem.W.CodeHd h c P ∧ h.get? P = some { cls := .none, data := .fields #[] }) → LamX.LawAtS l w (K w.params) (CX w) k n x mg fa h)
    (hCX : ∀ (w : World) (H : Hp) (s : Shared) (e : Value) (s' : Shared), CX w [] H s (fun _ _ _ => False) e s' → False) :
    PySem.W.WalkO q loose XP YP l.row.toRowW d [] (fun f vs => PySem.call f vs) := by
  refine Att.attach_callB hn hdf fun w s₀ s₁ mg mb fa o pm cd doc a vs ns G Y ho hd hcd hmg hobj hints hlen hbits hg => ?_
  have kx := hY w _ Y
  obtain ⟨fd, cs, sp, hT, nT, C, hb, hsp, hF⟩ := F w mg fa _ (hTs w _ Y) kx G.T.g hmg fun y c P hy ht => by
    obtain ⟨d', hd'⟩ : ∃ d', (recsOf q).find? (fun e => e.name == y) = some d' := by
      rw [← Option.isSome_iff_exists, List.find?_isSome]
      rw [List.any_eq_true] at hy
      exact hy
    exact PySem.W.tab_of G.T kx hd' ht
  exact LamX.law_callTs kx G.T.g G.T.b G.T.builtins G.T.nolimit hg hT nT C G.T.bmain hobj hints (Nat.le_trans hlen hn2) hr hF hb (fun H hH hS => hsp H a ns hlen hbits hH hS) fun H e s' => hCX w H s₁ e s'
end PL
/-! a comprehension with a test, told as a new list -/
namespace PL
open PySem PySem.Spec PyProof.Rows L2
end PL
set_option maxHeartbeats 1000000
/-! max(xs, default=d) of a list of whole numbers -/
namespace L2
open PySem PySem.Spec PyProof.Rows
end L2
namespace PL
open PySem PySem.Spec PyProof.Rows L2
end PL
/-! plain mathematics of unions of boxes: depths, joined sides -/
/-! sorted of rows that may stand several times -/
namespace L2
open PySem PySem.Spec PyProof.Rows SrtG
end L2
namespace PL
open PySem PySem.Spec PyProof.Rows L2 SrtG
variable [Nm]
section
variable {K : PySem.W.Frag} {ρ : Rho} {I J L N : Asn} {tr : TA}
/-- range(m), m any number -/
theorem iw_ri {tl : TA} {m : Int} (h : A K tl ρ I [.i m] J) (h1 : -1000000 ≤ m ∧ m ≤ 1000000) : IW K (iRng1 tl) ρ I m.toNat (fun i => .int (i : Nat)) J := fun G H σ gh en io R r => h G H σ gh en io _ fun vs G1 H1 g1 gh1 j1 dv => by
  obtain ⟨v, rfl, dw⟩ := dva1 dv
  obtain rfl := dv_int dw
  refine ⟨m, rfl, by omega, by omega, r _ G1 H1 g1 gh1 j1 ?_⟩
  have w := walk_r (K := K) (G := G1) (lo := 0) (n := m.toNat)
  exact ⟨w.go, w.stop, fun i G2 H v H' hi a1 a2 y => by
    obtain ⟨G', st, dp⟩ := w.yld i G2 H v H' hi a1 a2 y
    rw [Int.zero_add] at dp
    exact ⟨G', st, dp⟩⟩
end
end PL
/-! lines and ranks -/
/-! list + list, both as they stand -/
namespace L2
open PySem PySem.Spec PyProof.Rows
end L2
namespace PL
open PySem PySem.Spec PyProof.Rows L2
end PL
/-! A box that walks along an axis among others. Plain Lean. -/
namespace FR
theorem cmp_lt0 {x y : F} (hx : Nrm x) (hy : Nrm y) : cmpM x y < 0 ↔ vl x < vl y := by
  rw [vl_lt hx.1 hy.1]
  unfold cmpM
  split
  · constructor
    · intro _; assumption
    · intro _; decide
  · constructor
    · intro z
      split at z <;> omega
    · intro z; omega
theorem cmp_gt0 {x y : F} (hx : Nrm x) (hy : Nrm y) : 0 < cmpM x y ↔ vl y < vl x := by
  rw [vl_lt hy.1 hx.1]
  unfold cmpM
  split
  · constructor
    · intro z; omega
    · intro z; omega
  · split
    · constructor
      · intro _; assumption
      · intro _; decide
    · constructor
      · intro z; omega
      · intro z; omega
theorem le0 {x : Rat} (h : 0 ≤ x) (q : ¬ 0 < x) : x = 0 := by grind
/-! ### sweeps: a time at which both overlap -/
end FR
local macro_rules | `(tactic| walk_at "norm") => `(tactic| try simp only [PL.cxK, PL.cxHK, List.map_cons, List.map_nil, List.cons_append, List.nil_append, List.length_cons, List.length_nil, List.replicate_succ, List.replicate_zero, Nat.reduceAdd, Nat.reduceSub, Nat.zero_add, Nat.sub_self])
local macro_rules | `(tactic| walk_at "ev") => `(tactic| repeat' (first | exact PL.e_var rfl | exact PL.e_int | exact PL.e_bl | exact PL.e_str | exact PL.e_non | exact PL.a_nil | refine PL.p_cons ?_ ?_ | refine PL.p_f1 ?_ | refine PL.p_f2 ?_ | refine PL.p_add ?_ ?_ | refine PL.p_sub ?_ ?_ | refine PL.p_mul ?_ ?_ ?_ | refine PL.p_div ?_ ?_ ?_ | refine PL.p_mod ?_ ?_ ?_ | refine PL.p_pow ?_ ?_ ?_ | refine PL.p_lt ?_ ?_ | refine PL.p_le ?_ ?_ | refine PL.p_gt ?_ ?_ | refine PL.p_ge ?_ ?_ | refine PL.p_eqI ?_ ?_ | refine PL.p_neI ?_ ?_ | refine PL.p_neg ?_ | refine PL.p_gcd ?_ | refine PL.p_int1 ?_ | refine PL.p_abs ?_ | refine PL.p_len ?_ | refine PL.p_test ?_ | refine PL.d_ix0 ?_ | refine PL.d_ix1 ?_ | refine PL.d_ix2 ?_ | refine PL.d_ix3 ?_ | refine PL.p_list ?_ | refine' PL.p_i0 _ | refine' PL.p_i1 _ | refine' PL.p_i2 _))
namespace W
open PySem PySem.Spec PyProof.Rows L2 FR PL
def topS (i : Nat) : Stmt := PySem.Challenge.pw_steadybodies_k38_trees_and_broad_phases.main.body.getD i (.Pass ⟨0, 0, 0, 0⟩)
abbrev s_wall : Stmt := topS 1
abbrev s_plus : Stmt := topS 10
theorem sc_plus : FnScope ["a", "b", "shared", "stretched", "numerator", "divisor"] ["a", "b"] (defScope s_plus) := ⟨rfl, rfl, rfl, by decide +kernel, rfl, by decide +kernel, by decide +kernel⟩
abbrev s_minus : Stmt := topS 11
theorem sc_minus : FnScope ["a", "b"] ["a", "b"] (defScope s_minus) := ⟨rfl, rfl, rfl, by decide +kernel, rfl, by decide +kernel, by decide +kernel⟩
abbrev s_times : Stmt := topS 12
theorem sc_times : FnScope ["a", "b", "first", "second"] ["a", "b"] (defScope s_times) := ⟨rfl, rfl, rfl, by decide +kernel, rfl, by decide +kernel, by decide +kernel⟩
abbrev s_over : Stmt := topS 13
theorem sc_over : FnScope ["a", "b"] ["a", "b"] (defScope s_over) := ⟨rfl, rfl, rfl, by decide +kernel, rfl, by decide +kernel, by decide +kernel⟩
abbrev s_compare : Stmt := topS 14
theorem sc_compare : FnScope ["a", "b", "left", "right"] ["a", "b"] (defScope s_compare) := ⟨rfl, rfl, rfl, by decide +kernel, rfl, by decide +kernel, by decide +kernel⟩
abbrev s_least : Stmt := topS 15
theorem sc_least : FnScope ["items", "best", "item"] ["items"] (defScope s_least) := ⟨rfl, rfl, rfl, by decide +kernel, rfl, by decide +kernel, by decide +kernel⟩
abbrev s_greatest : Stmt := topS 16
theorem sc_greatest : FnScope ["items", "best", "item"] ["items"] (defScope s_greatest) := ⟨rfl, rfl, rfl, by decide +kernel, rfl, by decide +kernel, by decide +kernel⟩
abbrev s_dot : Stmt := topS 18
theorem sc_dot : FnScope ["a", "b"] ["a", "b"] (defScope s_dot) := ⟨rfl, rfl, rfl, by decide +kernel, rfl, by decide +kernel, by decide +kernel⟩
abbrev s_is_sized : Stmt := topS 20
theorem sc_is_sized : FnScope ["size"] ["size"] (defScope s_is_sized) := ⟨rfl, rfl, rfl, by decide +kernel, rfl, by decide +kernel, by decide +kernel⟩
abbrev s_check_box : Stmt := topS 21
theorem sc_check_box : FnScope ["box"] ["box"] (defScope s_check_box) := ⟨rfl, rfl, rfl, by decide +kernel, rfl, by decide +kernel, by decide +kernel⟩
abbrev s_ends_of : Stmt := topS 22
theorem sc_ends_of : FnScope ["box", "x", "y", "width", "height"] ["box"] (defScope s_ends_of) := ⟨rfl, rfl, rfl, by decide +kernel, rfl, by decide +kernel, by decide +kernel⟩
abbrev s_gap_of_ends : Stmt := topS 23
theorem sc_gap_of_ends : FnScope ["one", "other"] ["one", "other"] (defScope s_gap_of_ends) := ⟨rfl, rfl, rfl, by decide +kernel, rfl, by decide +kernel, by decide +kernel⟩
abbrev s_ends_meet : Stmt := topS 24
theorem sc_ends_meet : FnScope ["one", "other", "axis"] ["one", "other"] (defScope s_ends_meet) := ⟨rfl, rfl, rfl, by decide +kernel, rfl, by decide +kernel, by decide +kernel⟩
abbrev s_hull_of_ends : Stmt := topS 25
theorem sc_hull_of_ends : FnScope ["one", "other", "low_one", "high_one", "low_other", "high_other"] ["one", "other"] (defScope s_hull_of_ends) := ⟨rfl, rfl, rfl, by decide +kernel, rfl, by decide +kernel, by decide +kernel⟩
abbrev s_point_ends : Stmt := topS 26
theorem sc_point_ends : FnScope ["point"] ["point"] (defScope s_point_ends) := ⟨rfl, rfl, rfl, by decide +kernel, rfl, by decide +kernel, by decide +kernel⟩
abbrev s_leaf_of : Stmt := topS 28
theorem sc_leaf_of : FnScope ["name", "ends"] ["name", "ends"] (defScope s_leaf_of) := ⟨rfl, rfl, rfl, by decide +kernel, rfl, by decide +kernel, by decide +kernel⟩
abbrev s_branch_of : Stmt := topS 29
theorem sc_branch_of : FnScope ["one", "other"] ["one", "other"] (defScope s_branch_of) := ⟨rfl, rfl, rfl, by decide +kernel, rfl, by decide +kernel, by decide +kernel⟩
abbrev s_balanced : Stmt := topS 30
theorem sc_balanced : FnScope ["one", "other", "low", "high"] ["one", "other"] (defScope s_balanced) := ⟨rfl, rfl, rfl, by decide +kernel, rfl, by decide +kernel, by decide +kernel⟩
abbrev s_girth : Stmt := topS 31
theorem sc_girth : FnScope ["ends", "left", "right", "bottom", "top"] ["ends"] (defScope s_girth) := ⟨rfl, rfl, rfl, by decide +kernel, rfl, by decide +kernel, by decide +kernel⟩
abbrev s_growth : Stmt := topS 32
theorem sc_growth : FnScope ["node", "leaf"] ["node", "leaf"] (defScope s_growth) := ⟨rfl, rfl, rfl, by decide +kernel, rfl, by decide +kernel, by decide +kernel⟩
abbrev s_with_leaf : Stmt := topS 33
theorem sc_with_leaf : FnScope ["top", "leaf", "one", "other"] ["top", "leaf"] (defScope s_with_leaf) := ⟨rfl, rfl, rfl, by decide +kernel, rfl, by decide +kernel, by decide +kernel⟩
abbrev s_without_leaf : Stmt := topS 34
theorem sc_without_leaf : FnScope ["top", "leaf", "one", "other", "rest"] ["top", "leaf"] (defScope s_without_leaf) := ⟨rfl, rfl, rfl, by decide +kernel, rfl, by decide +kernel, by decide +kernel⟩
abbrev s_names_meeting : Stmt := topS 35
theorem sc_names_meeting : FnScope ["top", "ends", "found", "waiting", "node_ends", "_", "name", "children"] ["top", "ends"] (defScope s_names_meeting) := ⟨rfl, rfl, rfl, by decide +kernel, rfl, by decide +kernel, by decide +kernel⟩
abbrev s_least_leaf : Stmt := topS 36
theorem sc_least_leaf : FnScope ["top", "measure", "best", "waiting", "ends", "_", "name", "children", "worth"] ["top", "measure"] (defScope s_least_leaf) := ⟨rfl, rfl, rfl, by decide +kernel, rfl, by decide +kernel, by decide +kernel⟩
abbrev s_nodes_from : Stmt := topS 37
theorem sc_nodes_from : FnScope ["top"] ["top"] (defScope s_nodes_from) := ⟨rfl, rfl, rfl, by decide +kernel, rfl, by decide +kernel, by decide +kernel⟩
abbrev s_check_unused : Stmt := topS 39
theorem sc_check_unused : FnScope ["boxes", "name"] ["boxes", "name"] (defScope s_check_unused) := ⟨rfl, rfl, rfl, by decide +kernel, rfl, by decide +kernel, by decide +kernel⟩
abbrev s_check_used : Stmt := topS 40
theorem sc_check_used : FnScope ["boxes", "name"] ["boxes", "name"] (defScope s_check_used) := ⟨rfl, rfl, rfl, by decide +kernel, rfl, by decide +kernel, by decide +kernel⟩
abbrev s_Broad_init : Stmt := inClass (topS 41) 0
theorem sc_Broad_init : FnScope ["self"] ["self"] (defScope s_Broad_init) := ⟨rfl, rfl, rfl, by decide +kernel, rfl, by decide +kernel, by decide +kernel⟩
abbrev s_Broad_names : Stmt := inClass (topS 41) 1
theorem sc_Broad_names : FnScope ["self"] ["self"] (defScope s_Broad_names) := ⟨rfl, rfl, rfl, by decide +kernel, rfl, by decide +kernel, by decide +kernel⟩
abbrev s_Broad_add : Stmt := inClass (topS 41) 2
theorem sc_Broad_add : FnScope ["self", "name", "box"] ["self", "name", "box"] (defScope s_Broad_add) := ⟨rfl, rfl, rfl, by decide +kernel, rfl, by decide +kernel, by decide +kernel⟩
abbrev s_Broad_move : Stmt := inClass (topS 41) 3
theorem sc_Broad_move : FnScope ["self", "name", "box"] ["self", "name", "box"] (defScope s_Broad_move) := ⟨rfl, rfl, rfl, by decide +kernel, rfl, by decide +kernel, by decide +kernel⟩
abbrev s_Broad_remove : Stmt := inClass (topS 41) 4
theorem sc_Broad_remove : FnScope ["self", "name"] ["self", "name"] (defScope s_Broad_remove) := ⟨rfl, rfl, rfl, by decide +kernel, rfl, by decide +kernel, by decide +kernel⟩
abbrev s_Broad_pairs : Stmt := inClass (topS 41) 5
theorem sc_Broad_pairs : FnScope ["self", "one", "other"] ["self"] (defScope s_Broad_pairs) := ⟨rfl, rfl, rfl, by decide +kernel, rfl, by decide +kernel, by decide +kernel⟩
abbrev s_Broad_near : Stmt := inClass (topS 41) 6
theorem sc_Broad_near : FnScope ["self", "box"] ["self", "box"] (defScope s_Broad_near) := ⟨rfl, rfl, rfl, by decide +kernel, rfl, by decide +kernel, by decide +kernel⟩
abbrev s_Broad_box_of : Stmt := inClass (topS 41) 7
theorem sc_Broad_box_of : FnScope ["self", "name"] ["self", "name"] (defScope s_Broad_box_of) := ⟨rfl, rfl, rfl, by decide +kernel, rfl, by decide +kernel, by decide +kernel⟩
abbrev s_Broad_meeting : Stmt := inClass (topS 41) 8
theorem sc_Broad_meeting : FnScope ["self", "ends", "name", "other"] ["self", "ends"] (defScope s_Broad_meeting) := ⟨rfl, rfl, rfl, by decide +kernel, rfl, by decide +kernel, by decide +kernel⟩
abbrev s_Broad_put : Stmt := inClass (topS 41) 9
theorem sc_Broad_put : FnScope ["self", "name", "box", "ends", "found", "other", "partner"] ["self", "name", "box"] (defScope s_Broad_put) := ⟨rfl, rfl, rfl, by decide +kernel, rfl, by decide +kernel, by decide +kernel⟩
abbrev s_Broad_take : Stmt := inClass (topS 41) 10
theorem sc_Broad_take : FnScope ["self", "name", "other"] ["self", "name"] (defScope s_Broad_take) := ⟨rfl, rfl, rfl, by decide +kernel, rfl, by decide +kernel, by decide +kernel⟩
abbrev s_passing : Stmt := topS 43
theorem sc_passing : FnScope ["low", "high", "way", "at_low", "at_high"] ["low", "high", "way"] (defScope s_passing) := ⟨rfl, rfl, rfl, by decide +kernel, rfl, by decide +kernel, by decide +kernel⟩
abbrev s_common_span : Stmt := topS 44
theorem sc_common_span : FnScope ["spans", "first", "last", "start", "finish"] ["spans"] (defScope s_common_span) := ⟨rfl, rfl, rfl, by decide +kernel, rfl, by decide +kernel, by decide +kernel⟩
abbrev s_stretch_within : Stmt := topS 46
theorem sc_stretch_within : FnScope ["ends", "origin", "path", "spans", "low_end", "high_end", "start", "way", "low", "high", "first", "last"] ["ends", "origin", "path"] (defScope s_stretch_within) := ⟨rfl, rfl, rfl, by decide +kernel, rfl, by decide +kernel, by decide +kernel⟩
abbrev s_time_within : Stmt := topS 47
theorem sc_time_within : FnScope ["ends", "origin", "path", "pair"] ["ends", "origin", "path"] (defScope s_time_within) := ⟨rfl, rfl, rfl, by decide +kernel, rfl, by decide +kernel, by decide +kernel⟩
abbrev s_Tree_init : Stmt := inClass (topS 49) 0
theorem sc_Tree_init : FnScope ["self"] ["self"] (defScope s_Tree_init) := ⟨rfl, rfl, rfl, by decide +kernel, rfl, by decide +kernel, by decide +kernel⟩
abbrev s_Tree_names : Stmt := inClass (topS 49) 1
theorem sc_Tree_names : FnScope ["self"] ["self"] (defScope s_Tree_names) := ⟨rfl, rfl, rfl, by decide +kernel, rfl, by decide +kernel, by decide +kernel⟩
abbrev s_Tree_add : Stmt := inClass (topS 49) 2
theorem sc_Tree_add : FnScope ["self", "name", "box"] ["self", "name", "box"] (defScope s_Tree_add) := ⟨rfl, rfl, rfl, by decide +kernel, rfl, by decide +kernel, by decide +kernel⟩
abbrev s_Tree_move : Stmt := inClass (topS 49) 3
theorem sc_Tree_move : FnScope ["self", "name", "box"] ["self", "name", "box"] (defScope s_Tree_move) := ⟨rfl, rfl, rfl, by decide +kernel, rfl, by decide +kernel, by decide +kernel⟩
abbrev s_Tree_remove : Stmt := inClass (topS 49) 4
theorem sc_Tree_remove : FnScope ["self", "name"] ["self", "name"] (defScope s_Tree_remove) := ⟨rfl, rfl, rfl, by decide +kernel, rfl, by decide +kernel, by decide +kernel⟩
abbrev s_Tree_box_of : Stmt := inClass (topS 49) 5
theorem sc_Tree_box_of : FnScope ["self", "name"] ["self", "name"] (defScope s_Tree_box_of) := ⟨rfl, rfl, rfl, by decide +kernel, rfl, by decide +kernel, by decide +kernel⟩
abbrev s_Tree_near : Stmt := inClass (topS 49) 6
theorem sc_Tree_near : FnScope ["self", "box"] ["self", "box"] (defScope s_Tree_near) := ⟨rfl, rfl, rfl, by decide +kernel, rfl, by decide +kernel, by decide +kernel⟩
abbrev s_Tree_hit : Stmt := inClass (topS 49) 7
theorem sc_Tree_hit : FnScope ["self", "origin", "path", "ends"] ["self", "origin", "path"] (defScope s_Tree_hit) := ⟨rfl, rfl, rfl, by decide +kernel, rfl, by decide +kernel, by decide +kernel⟩
abbrev s_Tree_closest : Stmt := inClass (topS 49) 8
theorem sc_Tree_closest : FnScope ["self", "point", "ends"] ["self", "point"] (defScope s_Tree_closest) := ⟨rfl, rfl, rfl, by decide +kernel, rfl, by decide +kernel, by decide +kernel⟩
abbrev s_Tree_put : Stmt := inClass (topS 49) 10
theorem sc_Tree_put : FnScope ["self", "name", "box"] ["self", "name", "box"] (defScope s_Tree_put) := ⟨rfl, rfl, rfl, by decide +kernel, rfl, by decide +kernel, by decide +kernel⟩
abbrev s_Tree_take : Stmt := inClass (topS 49) 11
theorem sc_Tree_take : FnScope ["self", "name"] ["self", "name"] (defScope s_Tree_take) := ⟨rfl, rfl, rfl, by decide +kernel, rfl, by decide +kernel, by decide +kernel⟩
abbrev s_square_of_distance : Stmt := topS 50
theorem sc_square_of_distance : FnScope ["ends", "point", "spot", "way", "axis"] ["ends", "point"] (defScope s_square_of_distance) := ⟨rfl, rfl, rfl, by decide +kernel, rfl, by decide +kernel, by decide +kernel⟩
abbrev s_law_begin : Stmt := topS 52
theorem sc_law_begin : FnScope ["script", "seed", "cell"] ["script"] (defScope s_law_begin) := ⟨rfl, rfl, rfl, by decide +kernel, rfl, by decide +kernel, by decide +kernel⟩
abbrev s_law_take : Stmt := topS 53
theorem sc_law_take : FnScope ["d", "many", "small", "digit"] ["d", "many"] (defScope s_law_take) := ⟨rfl, rfl, rfl, by decide +kernel, rfl, by decide +kernel, by decide +kernel⟩
abbrev s_law_signed : Stmt := topS 54
theorem sc_law_signed : FnScope ["d", "most"] ["d", "most"] (defScope s_law_signed) := ⟨rfl, rfl, rfl, by decide +kernel, rfl, by decide +kernel, by decide +kernel⟩
abbrev s_law_gcd : Stmt := topS 55
theorem sc_law_gcd : FnScope ["a", "b"] ["a", "b"] (defScope s_law_gcd) := ⟨rfl, rfl, rfl, by decide +kernel, rfl, by decide +kernel, by decide +kernel⟩
abbrev s_law_f : Stmt := topS 56
theorem sc_law_f : FnScope ["a", "b", "c"] ["a", "b"] (defScope s_law_f) := ⟨rfl, rfl, rfl, by decide +kernel, rfl, by decide +kernel, by decide +kernel⟩
abbrev s_law_plus : Stmt := topS 57
theorem sc_law_plus : FnScope ["a", "b"] ["a", "b"] (defScope s_law_plus) := ⟨rfl, rfl, rfl, by decide +kernel, rfl, by decide +kernel, by decide +kernel⟩
abbrev s_law_minus : Stmt := topS 58
theorem sc_law_minus : FnScope ["a", "b"] ["a", "b"] (defScope s_law_minus) := ⟨rfl, rfl, rfl, by decide +kernel, rfl, by decide +kernel, by decide +kernel⟩
abbrev s_law_part : Stmt := topS 59
theorem sc_law_part : FnScope ["d", "most"] ["d", "most"] (defScope s_law_part) := ⟨rfl, rfl, rfl, by decide +kernel, rfl, by decide +kernel, by decide +kernel⟩
abbrev s_law_vector : Stmt := topS 60
theorem sc_law_vector : FnScope ["d", "most"] ["d", "most"] (defScope s_law_vector) := ⟨rfl, rfl, rfl, by decide +kernel, rfl, by decide +kernel, by decide +kernel⟩
abbrev s_law_high : Stmt := topS 61
theorem sc_law_high : FnScope ["box", "k"] ["box", "k"] (defScope s_law_high) := ⟨rfl, rfl, rfl, by decide +kernel, rfl, by decide +kernel, by decide +kernel⟩
abbrev s_law_size : Stmt := topS 62
theorem sc_law_size : FnScope ["d"] ["d"] (defScope s_law_size) := ⟨rfl, rfl, rfl, by decide +kernel, rfl, by decide +kernel, by decide +kernel⟩
abbrev s_law_beside : Stmt := topS 63
theorem sc_law_beside : FnScope ["d", "box", "size", "k", "place"] ["d", "box", "size"] (defScope s_law_beside) := ⟨rfl, rfl, rfl, by decide +kernel, rfl, by decide +kernel, by decide +kernel⟩
abbrev s_law_box : Stmt := topS 64
theorem sc_law_box : FnScope ["d", "boxes", "size"] ["d", "boxes"] (defScope s_law_box) := ⟨rfl, rfl, rfl, by decide +kernel, rfl, by decide +kernel, by decide +kernel⟩
abbrev s_law : Stmt := topS 65
theorem sc_law : FnScope ["script", "d", "table", "k", "name", "names", "one", "other", "thing", "detour", "turn", "box", "origin", "path", "near"] ["script"] (defScope s_law) := ⟨rfl, rfl, rfl, by decide +kernel, rfl, by decide +kernel, by decide +kernel⟩
variable [PL.Nm]
set_option genInjectivity false in
set_option genSizeOf false in
/-- what the top has written -/
structure Top (K : PySem.W.Frag) (mg : Str → Option Value) (base : Heap) where
  f_wall : Addr
  d_wall : FuncData
  F_wall : Fun K "_wall" "_wall" s_wall f_wall d_wall
  g_wall : mg "_wall" = some (.ref f_wall)
  b_wall : Binds K d_wall ["k"] []
  f_plus : Addr
  d_plus : FuncData
  F_plus : Fun K "plus" "plus" s_plus f_plus d_plus
  g_plus : mg "plus" = some (.ref f_plus)
  b_plus : Binds K d_plus ["a", "b"] []
  f_minus : Addr
  d_minus : FuncData
  F_minus : Fun K "minus" "minus" s_minus f_minus d_minus
  g_minus : mg "minus" = some (.ref f_minus)
  b_minus : Binds K d_minus ["a", "b"] []
  f_times : Addr
  d_times : FuncData
  F_times : Fun K "times" "times" s_times f_times d_times
  g_times : mg "times" = some (.ref f_times)
  b_times : Binds K d_times ["a", "b"] []
  f_over : Addr
  d_over : FuncData
  F_over : Fun K "over" "over" s_over f_over d_over
  g_over : mg "over" = some (.ref f_over)
  b_over : Binds K d_over ["a", "b"] []
  f_compare : Addr
  d_compare : FuncData
  F_compare : Fun K "compare" "compare" s_compare f_compare d_compare
  g_compare : mg "compare" = some (.ref f_compare)
  b_compare : Binds K d_compare ["a", "b"] []
  f_least : Addr
  d_least : FuncData
  F_least : Fun K "least" "least" s_least f_least d_least
  g_least : mg "least" = some (.ref f_least)
  b_least : Binds K d_least ["items"] []
  f_greatest : Addr
  d_greatest : FuncData
  F_greatest : Fun K "greatest" "greatest" s_greatest f_greatest d_greatest
  g_greatest : mg "greatest" = some (.ref f_greatest)
  b_greatest : Binds K d_greatest ["items"] []
  f_dot : Addr
  d_dot : FuncData
  F_dot : Fun K "dot" "dot" s_dot f_dot d_dot
  g_dot : mg "dot" = some (.ref f_dot)
  b_dot : Binds K d_dot ["a", "b"] []
  f_is_sized : Addr
  d_is_sized : FuncData
  F_is_sized : Fun K "is_sized" "is_sized" s_is_sized f_is_sized d_is_sized
  g_is_sized : mg "is_sized" = some (.ref f_is_sized)
  b_is_sized : Binds K d_is_sized ["size"] []
  f_check_box : Addr
  d_check_box : FuncData
  F_check_box : Fun K "check_box" "check_box" s_check_box f_check_box d_check_box
  g_check_box : mg "check_box" = some (.ref f_check_box)
  b_check_box : Binds K d_check_box ["box"] []
  f_ends_of : Addr
  d_ends_of : FuncData
  F_ends_of : Fun K "ends_of" "ends_of" s_ends_of f_ends_of d_ends_of
  g_ends_of : mg "ends_of" = some (.ref f_ends_of)
  b_ends_of : Binds K d_ends_of ["box"] []
  f_gap_of_ends : Addr
  d_gap_of_ends : FuncData
  F_gap_of_ends : Fun K "gap_of_ends" "gap_of_ends" s_gap_of_ends f_gap_of_ends d_gap_of_ends
  g_gap_of_ends : mg "gap_of_ends" = some (.ref f_gap_of_ends)
  b_gap_of_ends : Binds K d_gap_of_ends ["one", "other"] []
  f_ends_meet : Addr
  d_ends_meet : FuncData
  tc_ends_meet : Addr
  tp_ends_meet : Addr
  tb_ends_meet : GxR.TabB base mg tc_ends_meet tp_ends_meet
  F_ends_meet : PL.FunC K "ends_meet" "ends_meet" s_ends_meet f_ends_meet d_ends_meet tc_ends_meet
  g_ends_meet : mg "ends_meet" = some (.ref f_ends_meet)
  b_ends_meet : Binds K d_ends_meet ["one", "other"] []
  f_hull_of_ends : Addr
  d_hull_of_ends : FuncData
  F_hull_of_ends : Fun K "hull_of_ends" "hull_of_ends" s_hull_of_ends f_hull_of_ends d_hull_of_ends
  g_hull_of_ends : mg "hull_of_ends" = some (.ref f_hull_of_ends)
  b_hull_of_ends : Binds K d_hull_of_ends ["one", "other"] []
  f_point_ends : Addr
  d_point_ends : FuncData
  F_point_ends : Fun K "point_ends" "point_ends" s_point_ends f_point_ends d_point_ends
  g_point_ends : mg "point_ends" = some (.ref f_point_ends)
  b_point_ends : Binds K d_point_ends ["point"] []
  f_leaf_of : Addr
  d_leaf_of : FuncData
  F_leaf_of : Fun K "leaf_of" "leaf_of" s_leaf_of f_leaf_of d_leaf_of
  g_leaf_of : mg "leaf_of" = some (.ref f_leaf_of)
  b_leaf_of : Binds K d_leaf_of ["name", "ends"] []
  f_branch_of : Addr
  d_branch_of : FuncData
  F_branch_of : Fun K "branch_of" "branch_of" s_branch_of f_branch_of d_branch_of
  g_branch_of : mg "branch_of" = some (.ref f_branch_of)
  b_branch_of : Binds K d_branch_of ["one", "other"] []
  f_balanced : Addr
  d_balanced : FuncData
  F_balanced : Fun K "balanced" "balanced" s_balanced f_balanced d_balanced
  g_balanced : mg "balanced" = some (.ref f_balanced)
  b_balanced : Binds K d_balanced ["one", "other"] []
  f_girth : Addr
  d_girth : FuncData
  F_girth : Fun K "girth" "girth" s_girth f_girth d_girth
  g_girth : mg "girth" = some (.ref f_girth)
  b_girth : Binds K d_girth ["ends"] []
  f_growth : Addr
  d_growth : FuncData
  F_growth : Fun K "growth" "growth" s_growth f_growth d_growth
  g_growth : mg "growth" = some (.ref f_growth)
  b_growth : Binds K d_growth ["node", "leaf"] []
  f_with_leaf : Addr
  d_with_leaf : FuncData
  F_with_leaf : Fun K "with_leaf" "with_leaf" s_with_leaf f_with_leaf d_with_leaf
  g_with_leaf : mg "with_leaf" = some (.ref f_with_leaf)
  b_with_leaf : Binds K d_with_leaf ["top", "leaf"] []
  f_without_leaf : Addr
  d_without_leaf : FuncData
  F_without_leaf : Fun K "without_leaf" "without_leaf" s_without_leaf f_without_leaf d_without_leaf
  g_without_leaf : mg "without_leaf" = some (.ref f_without_leaf)
  b_without_leaf : Binds K d_without_leaf ["top", "leaf"] []
  f_names_meeting : Addr
  d_names_meeting : FuncData
  F_names_meeting : Fun K "names_meeting" "names_meeting" s_names_meeting f_names_meeting d_names_meeting
  g_names_meeting : mg "names_meeting" = some (.ref f_names_meeting)
  b_names_meeting : Binds K d_names_meeting ["top", "ends"] []
  f_least_leaf : Addr
  d_least_leaf : FuncData
  F_least_leaf : Fun K "least_leaf" "least_leaf" s_least_leaf f_least_leaf d_least_leaf
  g_least_leaf : mg "least_leaf" = some (.ref f_least_leaf)
  b_least_leaf : Binds K d_least_leaf ["top", "measure"] []
  f_nodes_from : Addr
  d_nodes_from : FuncData
  F_nodes_from : Fun K "nodes_from" "nodes_from" s_nodes_from f_nodes_from d_nodes_from
  g_nodes_from : mg "nodes_from" = some (.ref f_nodes_from)
  b_nodes_from : Binds K d_nodes_from ["top"] []
  f_check_unused : Addr
  d_check_unused : FuncData
  F_check_unused : Fun K "check_unused" "check_unused" s_check_unused f_check_unused d_check_unused
  g_check_unused : mg "check_unused" = some (.ref f_check_unused)
  b_check_unused : Binds K d_check_unused ["boxes", "name"] []
  f_check_used : Addr
  d_check_used : FuncData
  F_check_used : Fun K "check_used" "check_used" s_check_used f_check_used d_check_used
  g_check_used : mg "check_used" = some (.ref f_check_used)
  b_check_used : Binds K d_check_used ["boxes", "name"] []
  f_Broad_init : Addr
  d_Broad_init : FuncData
  F_Broad_init : Fun K "__init__" "Broad.__init__" s_Broad_init f_Broad_init d_Broad_init
  b_Broad_init : Binds K d_Broad_init ["self"] []
  f_Broad_names : Addr
  d_Broad_names : FuncData
  F_Broad_names : Fun K "names" "Broad.names" s_Broad_names f_Broad_names d_Broad_names
  b_Broad_names : Binds K d_Broad_names ["self"] []
  f_Broad_add : Addr
  d_Broad_add : FuncData
  F_Broad_add : Fun K "add" "Broad.add" s_Broad_add f_Broad_add d_Broad_add
  b_Broad_add : Binds K d_Broad_add ["self", "name", "box"] []
  f_Broad_move : Addr
  d_Broad_move : FuncData
  F_Broad_move : Fun K "move" "Broad.move" s_Broad_move f_Broad_move d_Broad_move
  b_Broad_move : Binds K d_Broad_move ["self", "name", "box"] []
  f_Broad_remove : Addr
  d_Broad_remove : FuncData
  F_Broad_remove : Fun K "remove" "Broad.remove" s_Broad_remove f_Broad_remove d_Broad_remove
  b_Broad_remove : Binds K d_Broad_remove ["self", "name"] []
  f_Broad_pairs : Addr
  d_Broad_pairs : FuncData
  F_Broad_pairs : Fun K "pairs" "Broad.pairs" s_Broad_pairs f_Broad_pairs d_Broad_pairs
  b_Broad_pairs : Binds K d_Broad_pairs ["self"] []
  f_Broad_near : Addr
  d_Broad_near : FuncData
  F_Broad_near : Fun K "near" "Broad.near" s_Broad_near f_Broad_near d_Broad_near
  b_Broad_near : Binds K d_Broad_near ["self", "box"] []
  f_Broad_box_of : Addr
  d_Broad_box_of : FuncData
  F_Broad_box_of : Fun K "box_of" "Broad.box_of" s_Broad_box_of f_Broad_box_of d_Broad_box_of
  b_Broad_box_of : Binds K d_Broad_box_of ["self", "name"] []
  f_Broad_meeting : Addr
  d_Broad_meeting : FuncData
  F_Broad_meeting : Fun K "_meeting" "Broad._meeting" s_Broad_meeting f_Broad_meeting d_Broad_meeting
  b_Broad_meeting : Binds K d_Broad_meeting ["self", "ends"] []
  f_Broad_put : Addr
  d_Broad_put : FuncData
  F_Broad_put : Fun K "_put" "Broad._put" s_Broad_put f_Broad_put d_Broad_put
  b_Broad_put : Binds K d_Broad_put ["self", "name", "box"] []
  f_Broad_take : Addr
  d_Broad_take : FuncData
  F_Broad_take : Fun K "_take" "Broad._take" s_Broad_take f_Broad_take d_Broad_take
  b_Broad_take : Binds K d_Broad_take ["self", "name"] []
  f_passing : Addr
  d_passing : FuncData
  F_passing : Fun K "passing" "passing" s_passing f_passing d_passing
  g_passing : mg "passing" = some (.ref f_passing)
  b_passing : Binds K d_passing ["low", "high", "way"] []
  f_common_span : Addr
  d_common_span : FuncData
  F_common_span : Fun K "common_span" "common_span" s_common_span f_common_span d_common_span
  g_common_span : mg "common_span" = some (.ref f_common_span)
  b_common_span : Binds K d_common_span ["spans"] []
  f_stretch_within : Addr
  d_stretch_within : FuncData
  F_stretch_within : Fun K "stretch_within" "stretch_within" s_stretch_within f_stretch_within d_stretch_within
  g_stretch_within : mg "stretch_within" = some (.ref f_stretch_within)
  b_stretch_within : Binds K d_stretch_within ["ends", "origin", "path"] []
  f_time_within : Addr
  d_time_within : FuncData
  F_time_within : Fun K "time_within" "time_within" s_time_within f_time_within d_time_within
  g_time_within : mg "time_within" = some (.ref f_time_within)
  b_time_within : Binds K d_time_within ["ends", "origin", "path"] []
  f_Tree_init : Addr
  d_Tree_init : FuncData
  F_Tree_init : Fun K "__init__" "Tree.__init__" s_Tree_init f_Tree_init d_Tree_init
  b_Tree_init : Binds K d_Tree_init ["self"] []
  f_Tree_names : Addr
  d_Tree_names : FuncData
  F_Tree_names : Fun K "names" "Tree.names" s_Tree_names f_Tree_names d_Tree_names
  b_Tree_names : Binds K d_Tree_names ["self"] []
  f_Tree_add : Addr
  d_Tree_add : FuncData
  F_Tree_add : Fun K "add" "Tree.add" s_Tree_add f_Tree_add d_Tree_add
  b_Tree_add : Binds K d_Tree_add ["self", "name", "box"] []
  f_Tree_move : Addr
  d_Tree_move : FuncData
  F_Tree_move : Fun K "move" "Tree.move" s_Tree_move f_Tree_move d_Tree_move
  b_Tree_move : Binds K d_Tree_move ["self", "name", "box"] []
  f_Tree_remove : Addr
  d_Tree_remove : FuncData
  F_Tree_remove : Fun K "remove" "Tree.remove" s_Tree_remove f_Tree_remove d_Tree_remove
  b_Tree_remove : Binds K d_Tree_remove ["self", "name"] []
  f_Tree_box_of : Addr
  d_Tree_box_of : FuncData
  F_Tree_box_of : Fun K "box_of" "Tree.box_of" s_Tree_box_of f_Tree_box_of d_Tree_box_of
  b_Tree_box_of : Binds K d_Tree_box_of ["self", "name"] []
  f_Tree_near : Addr
  d_Tree_near : FuncData
  F_Tree_near : Fun K "near" "Tree.near" s_Tree_near f_Tree_near d_Tree_near
  b_Tree_near : Binds K d_Tree_near ["self", "box"] []
  f_Tree_hit : Addr
  d_Tree_hit : FuncData
  tc_Tree_hit : Addr
  tp_Tree_hit : Addr
  tb_Tree_hit : GxR.TabB base mg tc_Tree_hit tp_Tree_hit
  F_Tree_hit : PL.FunC K "hit" "Tree.hit" s_Tree_hit f_Tree_hit d_Tree_hit tc_Tree_hit
  ln_Tree_hit : PL.Nm.nm tp_Tree_hit = ("Tree.hit" : Str) ++ (".<locals>." : Str) ++ ("<lambda>" : Str)
  b_Tree_hit : Binds K d_Tree_hit ["self", "origin", "path"] []
  f_Tree_closest : Addr
  d_Tree_closest : FuncData
  tc_Tree_closest : Addr
  tp_Tree_closest : Addr
  tb_Tree_closest : GxR.TabB base mg tc_Tree_closest tp_Tree_closest
  F_Tree_closest : PL.FunC K "closest" "Tree.closest" s_Tree_closest f_Tree_closest d_Tree_closest tc_Tree_closest
  ln_Tree_closest : PL.Nm.nm tp_Tree_closest = ("Tree.closest" : Str) ++ (".<locals>." : Str) ++ ("<lambda>" : Str)
  b_Tree_closest : Binds K d_Tree_closest ["self", "point"] []
  f_Tree_put : Addr
  d_Tree_put : FuncData
  F_Tree_put : Fun K "_put" "Tree._put" s_Tree_put f_Tree_put d_Tree_put
  b_Tree_put : Binds K d_Tree_put ["self", "name", "box"] []
  f_Tree_take : Addr
  d_Tree_take : FuncData
  F_Tree_take : Fun K "_take" "Tree._take" s_Tree_take f_Tree_take d_Tree_take
  b_Tree_take : Binds K d_Tree_take ["self", "name"] []
  f_square_of_distance : Addr
  d_square_of_distance : FuncData
  F_square_of_distance : Fun K "square_of_distance" "square_of_distance" s_square_of_distance f_square_of_distance d_square_of_distance
  g_square_of_distance : mg "square_of_distance" = some (.ref f_square_of_distance)
  b_square_of_distance : Binds K d_square_of_distance ["ends", "point"] []
  f_law_begin : Addr
  d_law_begin : FuncData
  F_law_begin : Fun K "_law_begin" "_law_begin" s_law_begin f_law_begin d_law_begin
  g_law_begin : mg "_law_begin" = some (.ref f_law_begin)
  b_law_begin : Binds K d_law_begin ["script"] []
  f_law_take : Addr
  d_law_take : FuncData
  F_law_take : Fun K "_law_take" "_law_take" s_law_take f_law_take d_law_take
  g_law_take : mg "_law_take" = some (.ref f_law_take)
  b_law_take : Binds K d_law_take ["d", "many"] []
  f_law_signed : Addr
  d_law_signed : FuncData
  F_law_signed : Fun K "_law_signed" "_law_signed" s_law_signed f_law_signed d_law_signed
  g_law_signed : mg "_law_signed" = some (.ref f_law_signed)
  b_law_signed : Binds K d_law_signed ["d", "most"] []
  f_law_gcd : Addr
  d_law_gcd : FuncData
  F_law_gcd : Fun K "_law_gcd" "_law_gcd" s_law_gcd f_law_gcd d_law_gcd
  g_law_gcd : mg "_law_gcd" = some (.ref f_law_gcd)
  b_law_gcd : Binds K d_law_gcd ["a", "b"] []
  f_law_f : Addr
  d_law_f : FuncData
  F_law_f : Fun K "_law_f" "_law_f" s_law_f f_law_f d_law_f
  g_law_f : mg "_law_f" = some (.ref f_law_f)
  b_law_f : Binds K d_law_f ["a", "b"] []
  f_law_plus : Addr
  d_law_plus : FuncData
  F_law_plus : Fun K "_law_plus" "_law_plus" s_law_plus f_law_plus d_law_plus
  g_law_plus : mg "_law_plus" = some (.ref f_law_plus)
  b_law_plus : Binds K d_law_plus ["a", "b"] []
  f_law_minus : Addr
  d_law_minus : FuncData
  F_law_minus : Fun K "_law_minus" "_law_minus" s_law_minus f_law_minus d_law_minus
  g_law_minus : mg "_law_minus" = some (.ref f_law_minus)
  b_law_minus : Binds K d_law_minus ["a", "b"] []
  f_law_part : Addr
  d_law_part : FuncData
  F_law_part : Fun K "_law_part" "_law_part" s_law_part f_law_part d_law_part
  g_law_part : mg "_law_part" = some (.ref f_law_part)
  b_law_part : Binds K d_law_part ["d", "most"] []
  f_law_vector : Addr
  d_law_vector : FuncData
  F_law_vector : Fun K "_law_vector" "_law_vector" s_law_vector f_law_vector d_law_vector
  g_law_vector : mg "_law_vector" = some (.ref f_law_vector)
  b_law_vector : Binds K d_law_vector ["d", "most"] []
  f_law_high : Addr
  d_law_high : FuncData
  F_law_high : Fun K "_law_high" "_law_high" s_law_high f_law_high d_law_high
  g_law_high : mg "_law_high" = some (.ref f_law_high)
  b_law_high : Binds K d_law_high ["box", "k"] []
  f_law_size : Addr
  d_law_size : FuncData
  F_law_size : Fun K "_law_size" "_law_size" s_law_size f_law_size d_law_size
  g_law_size : mg "_law_size" = some (.ref f_law_size)
  b_law_size : Binds K d_law_size ["d"] []
  f_law_beside : Addr
  d_law_beside : FuncData
  F_law_beside : Fun K "_law_beside" "_law_beside" s_law_beside f_law_beside d_law_beside
  g_law_beside : mg "_law_beside" = some (.ref f_law_beside)
  b_law_beside : Binds K d_law_beside ["d", "box", "size"] []
  f_law_box : Addr
  d_law_box : FuncData
  F_law_box : Fun K "_law_box" "_law_box" s_law_box f_law_box d_law_box
  g_law_box : mg "_law_box" = some (.ref f_law_box)
  b_law_box : Binds K d_law_box ["d", "boxes"] []
  f_law : Addr
  d_law : FuncData
  F_law : Fun K "law" "law" s_law f_law d_law
  g_law : mg "law" = some (.ref f_law)
  b_law : Binds K d_law ["script"] []
  C_Broad : Addr
  gC_Broad : mg "Broad" = some (.ref C_Broad)
  cl_Broad : Cls K C_Broad
  mk_Broad : Mk K C_Broad f_Broad_init
  na_Broad_boxes : NoAttr K C_Broad "boxes"
  na_Broad_ends : NoAttr K C_Broad "ends"
  na_Broad_partners : NoAttr K C_Broad "partners"
  pa_Broad_names : Addr
  pr_Broad_names : PropOf K C_Broad "names" pa_Broad_names f_Broad_names
  me_Broad_add : Meth K C_Broad "add" f_Broad_add
  me_Broad_move : Meth K C_Broad "move" f_Broad_move
  me_Broad_remove : Meth K C_Broad "remove" f_Broad_remove
  me_Broad_pairs : Meth K C_Broad "pairs" f_Broad_pairs
  me_Broad_near : Meth K C_Broad "near" f_Broad_near
  me_Broad_box_of : Meth K C_Broad "box_of" f_Broad_box_of
  me_Broad_meeting : Meth K C_Broad "_meeting" f_Broad_meeting
  me_Broad_put : Meth K C_Broad "_put" f_Broad_put
  me_Broad_take : Meth K C_Broad "_take" f_Broad_take
  C_Tree : Addr
  gC_Tree : mg "Tree" = some (.ref C_Tree)
  cl_Tree : Cls K C_Tree
  mk_Tree : Mk K C_Tree f_Tree_init
  na_Tree__boxes : NoAttr K C_Tree "_boxes"
  na_Tree__top : NoAttr K C_Tree "_top"
  pa_Tree_names : Addr
  pr_Tree_names : PropOf K C_Tree "names" pa_Tree_names f_Tree_names
  me_Tree_add : Meth K C_Tree "add" f_Tree_add
  me_Tree_move : Meth K C_Tree "move" f_Tree_move
  me_Tree_remove : Meth K C_Tree "remove" f_Tree_remove
  me_Tree_box_of : Meth K C_Tree "box_of" f_Tree_box_of
  me_Tree_near : Meth K C_Tree "near" f_Tree_near
  me_Tree_hit : Meth K C_Tree "hit" f_Tree_hit
  me_Tree_closest : Meth K C_Tree "closest" f_Tree_closest
  me_Tree_put : Meth K C_Tree "_put" f_Tree_put
  me_Tree_take : Meth K C_Tree "_take" f_Tree_take
  k_ZERO : Addr
  gk_ZERO : mg "ZERO" = some (.ref k_ZERO)
  dk_ZERO : ∀ G, SqT K G k_ZERO [.int (0), .int (1)]
  k_ONE : Addr
  gk_ONE : mg "ONE" = some (.ref k_ONE)
  dk_ONE : ∀ G, SqT K G k_ONE [.int (1), .int (1)]
  c_ZeroDenominator : Addr
  gc_ZeroDenominator : mg "ZeroDenominator" = some (.ref c_ZeroDenominator)
  xc_ZeroDenominator : PySem.W.excIn K c_ZeroDenominator [.type "ValueError", .type "Exception", .type "BaseException", .type "object"] "ValueError.__new__" = true
  kc_ZeroDenominator : PySem.W.keepIn K (.ref c_ZeroDenominator) = true
  bc_ZeroDenominator : PySem.W.subIn K (.ref c_ZeroDenominator) (.type "BaseException") = some true
  tc_ZeroDenominator : PySem.W.typeIn K (.ref c_ZeroDenominator) = some (.type "type")
  hc_ZeroDenominator : PySem.W.hasDictIn K c_ZeroDenominator = true
  c_BoxError : Addr
  gc_BoxError : mg "BoxError" = some (.ref c_BoxError)
  xc_BoxError : PySem.W.excIn K c_BoxError [.type "ValueError", .type "Exception", .type "BaseException", .type "object"] "ValueError.__new__" = true
  kc_BoxError : PySem.W.keepIn K (.ref c_BoxError) = true
  bc_BoxError : PySem.W.subIn K (.ref c_BoxError) (.type "BaseException") = some true
  tc_BoxError : PySem.W.typeIn K (.ref c_BoxError) = some (.type "type")
  hc_BoxError : PySem.W.hasDictIn K c_BoxError = true
  c_IdError : Addr
  gc_IdError : mg "IdError" = some (.ref c_IdError)
  xc_IdError : PySem.W.excIn K c_IdError [.type "ValueError", .type "Exception", .type "BaseException", .type "object"] "ValueError.__new__" = true
  kc_IdError : PySem.W.keepIn K (.ref c_IdError) = true
  bc_IdError : PySem.W.subIn K (.ref c_IdError) (.type "BaseException") = some true
  tc_IdError : PySem.W.typeIn K (.ref c_IdError) = some (.type "type")
  hc_IdError : PySem.W.hasDictIn K c_IdError = true
  ac_ZeroDenominator_ZeroDenominator : PySem.W.subIn K (.ref c_ZeroDenominator) (.ref c_ZeroDenominator) = some true
  ac_BoxError_BoxError : PySem.W.subIn K (.ref c_BoxError) (.ref c_BoxError) = some true
  ac_IdError_IdError : PySem.W.subIn K (.ref c_IdError) (.ref c_IdError) = some true
  n_abs : mg "abs" = none
  n_all : mg "all" = none
  n_int : mg "int" = none
  n_len : mg "len" = none
  n_list : mg "list" = none
  n_max : mg "max" = none
  n_range : mg "range" = none
  n_sorted : mg "sorted" = none
  n_tuple : mg "tuple" = none
  n_zip : mg "zip" = none
  n_gcd : mg "gcd" = some (.builtin "math.gcd")
/-- the tables of code objects that are written -/
abbrev Top.tabs {K : PySem.W.Frag} {mg : Str → Option Value} {base : Heap} (Tp : Top K mg base) : PL.Tbs := ⟨[Tp.tp_ends_meet], [Tp.tp_Tree_hit, Tp.tp_Tree_closest]⟩
def ROver (C : Addr) (ds : List Dat) (r : Res) : Prop := ∃ a b : F, ds = [.d (fr a), .d (fr b)] ∧ PL.Ok 4000 a ∧ PL.Ok 4000 b ∧ ((b.1 ≠ 0 ∧ r = .ok (.d (fr (overM a b)))) ∨ (b.1 = 0 ∧ r = .err C))
theorem ok_inv {n : Nat} {b : F} (hb : PL.Ok n b) (h : b.1 ≠ 0) : PL.Ok n (invM b) := ⟨inv_nrm hb.nrm h, by
  unfold invM
  split
  · exact ⟨sz_neg hb.sz.2, sz_neg hb.sz.1⟩
  · exact ⟨hb.sz.2, hb.sz.1⟩⟩
theorem ok_over {m n : Nat} {a b : F} (ha : PL.Ok m a) (hb : PL.Ok n b) (h : b.1 ≠ 0) : PL.Ok (m + n) (overM a b) := PL.ok_times ha (ok_inv hb h)
def RCmp (ds : List Dat) (d : Dat) : Prop := ∃ a b : F, ds = [.d (fr a), .d (fr b)] ∧ PL.Ok 4000 a ∧ PL.Ok 4000 b ∧ d = .i (cmpM a b)
theorem less_cmp (w b : F) : less w b = decide (cmpM w b < 0) := by
  unfold less cmpM
  split
  · rename_i c
    rw [decide_eq_true c]
    rfl
  · rename_i c
    rw [decide_eq_false c]
    split <;> rfl
theorem more_cmp (w b : F) : more w b = decide (0 < cmpM w b) := by
  unfold more less cmpM
  split
  · rename_i c
    rw [decide_eq_false (by omega)]
    rfl
  · split
    · rename_i c
      rw [decide_eq_true c]
      rfl
    · rename_i c
      rw [decide_eq_false c]
      rfl
def RBest (f : F → F → Bool) (ds : List Dat) (d : Dat) : Prop := ∃ (x : F) (xs : List F), ds = [.t (fr x :: xs.map fr)] ∧ (∀ y ∈ x :: xs, PL.Ok 4000 y) ∧ d = .d (fr (bestL f x (x :: xs)))
/-- boxes -/
structure Bx where
  p0 : F
  p1 : F
  s0 : F
  s1 : F
abbrev bxd (b : Bx) : PyData := .tuple [.tuple [fr b.p0, fr b.p1], .tuple [fr b.s0, fr b.s1]]
abbrev vcd (a b : F) : PyData := .tuple [fr a, fr b]
def Bx.sized (b : Bx) : Bool := decide (0 < b.s0.1) && decide (0 < b.s1.1)
def RSized (ds : List Dat) (d : Dat) : Prop := ∃ a b : F, ds = [.t [fr a, fr b]] ∧ d = .b (decide (0 < a.1) && decide (0 < b.1))
def RCheck (C : Addr) (ds : List Dat) (r : Res) : Prop := ∃ b : Bx, ds = [.d (bxd b)] ∧ ((b.sized = true ∧ r = .ok (.d .none)) ∨ (b.sized = false ∧ r = .err C))
def REnds (ds : List Dat) (d : Dat) : Prop := ∃ b : Bx, ds = [.d (bxd b)] ∧ PL.Ok 4000 b.p0 ∧ PL.Ok 4000 b.p1 ∧ PL.Ok 4000 b.s0 ∧ PL.Ok 4000 b.s1 ∧ d = .t [vcd b.p0 (plusM b.p0 b.s0), vcd b.p1 (plusM b.p1 b.s1)]
def spanOf (lo hi w : F) : F × F := if 0 < w.1 then (overM lo w, overM hi w) else (overM hi w, overM lo w)
abbrev pr (s : F × F) : PyData := .tuple [fr s.1, fr s.2]
def RPassing (ds : List Dat) (r : Res) : Prop := ∃ lo hi w : F, ds = [.d (fr lo), .d (fr hi), .d (fr w)] ∧ PL.Ok 4000 lo ∧ PL.Ok 4000 hi ∧ PL.Ok 4000 w ∧ w.1 ≠ 0 ∧ r = .ok (.d (pr (spanOf lo hi w)))
def RCommon (ds : List Dat) (d : Dat) : Prop := ∃ sp : List (F × F), ds = [.d (.list (sp.map pr))] ∧ (∀ s ∈ sp, PL.Ok 4000 s.1 ∧ PL.Ok 4000 s.2) ∧ d = .d (pr (fstM sp, lstM sp))
theorem ok_c0 {n : Nat} (h : 2 ≤ n) : PL.Ok n ((0, 1) : F) := PL.Ok.mono (m := 2) ⟨⟨by decide, by decide⟩, ⟨by decide, by decide⟩⟩ h
theorem ok_c1 {n : Nat} (h : 2 ≤ n) : PL.Ok n ((1, 1) : F) := PL.Ok.mono (m := 2) ⟨⟨by decide, by decide⟩, ⟨by decide, by decide⟩⟩ h
theorem fst_in {n : Nat} {sp : List (F × F)} (h : ∀ s ∈ sp, PL.Ok n s.1) (hn : 2 ≤ n := by decide) : PL.Ok n (fstM sp) := by
  obtain ⟨h1, _⟩ := fst_ok sp (0, 1) (by decide) fun s hs => (h s hs).nrm.1
  rcases h1 with e | ⟨s, hs, e⟩
  · have e' : fstM sp = (0, 1) := e
    rw [e']
    exact ok_c0 hn
  · have e' : fstM sp = s.1 := e
    rw [e']
    exact h s hs
theorem lst_in {n : Nat} {sp : List (F × F)} (h : ∀ s ∈ sp, PL.Ok n s.2) (hn : 2 ≤ n := by decide) : PL.Ok n (lstM sp) := by
  obtain ⟨h1, _⟩ := lst_ok sp (1, 1) (by decide) fun s hs => (h s hs).nrm.1
  rcases h1 with e | ⟨s, hs, e⟩
  · have e' : lstM sp = (1, 1) := e
    rw [e']
    exact ok_c1 hn
  · have e' : lstM sp = s.2 := e
    rw [e']
    exact h s hs
/-- the sizes of what a ray is asked about -/
structure RaySz (b : Bx) (o0 o1 w0 w1 : F) : Prop where
  a1 : PL.Ok 200 b.p0
  a2 : PL.Ok 200 b.p1
  a3 : PL.Ok 200 b.s0
  a4 : PL.Ok 200 b.s1
  a5 : PL.Ok 200 o0
  a6 : PL.Ok 200 o1
  a7 : PL.Ok 200 w0
  a8 : PL.Ok 200 w1
def cxA (p s o w : F) : Ax := ⟨p, plusM p s, o, w⟩
structure AxSz (a : Ax) : Prop where
  l : PL.Ok 401 a.l
  h : PL.Ok 401 a.h
  o : PL.Ok 200 a.o
  w : PL.Ok 200 a.w
theorem AxSz.mlo {a : Ax} (s : AxSz a) : PL.Ok 4000 (minusM a.l a.o) := (PL.ok_minus s.l s.o).mono (by decide)
theorem AxSz.mho {a : Ax} (s : AxSz a) : PL.Ok 4000 (minusM a.h a.o) := (PL.ok_minus s.h s.o).mono (by decide)
theorem AxSz.ok {a : Ax} (s : AxSz a) : a.Ok := ⟨s.l.nrm, s.h.nrm, s.o.nrm, s.w.nrm⟩
theorem cx_sz {b : Bx} {o0 o1 w0 w1 : F} (k : RaySz b o0 o1 w0 w1) : AxSz (cxA b.p0 b.s0 o0 w0) ∧ AxSz (cxA b.p1 b.s1 o1 w1) :=
  ⟨⟨k.a1.mono (by decide), PL.ok_plus k.a1 k.a3, k.a5, k.a7⟩, ⟨k.a2.mono (by decide), PL.ok_plus k.a2 k.a4, k.a6, k.a8⟩⟩
def optD : Option (F × F) → PyData
  | none => .none
  | some s => pr s
def timeD : Option (F × F) → PyData
  | none => .none
  | some s => fr s.1
def RWithin (ds : List Dat) (r : Res) : Prop := ∃ (b : Bx) (o0 o1 w0 w1 : F), ds = [.t [vcd b.p0 (plusM b.p0 b.s0), vcd b.p1 (plusM b.p1 b.s1)], .d (vcd o0 o1), .d (vcd w0 w1)] ∧ RaySz b o0 o1 w0 w1 ∧ r = .ok (.d (optD (rayM (cxA b.p0 b.s0 o0 w0) (cxA b.p1 b.s1 o1 w1))))
def RWithinT (ds : List Dat) (r : Res) : Prop := ∃ (b : Bx) (o0 o1 w0 w1 : F), ds = [.t [vcd b.p0 (plusM b.p0 b.s0), vcd b.p1 (plusM b.p1 b.s1)], .d (vcd o0 o1), .d (vcd w0 w1)] ∧ RaySz b o0 o1 w0 w1 ∧ r = .ok (.d (timeD (rayM (cxA b.p0 b.s0 o0 w0) (cxA b.p1 b.s1 o1 w1))))
theorem out_tt {a : Ax} (h : a.out = true) : a.w.1 = 0 ∧ (decide (0 < (minusM a.l a.o).1) || decide ((minusM a.h a.o).1 < 0)) = true := by
  unfold Ax.out at h
  rw [Bool.and_eq_true] at h
  exact ⟨by simpa using h.1, h.2⟩
theorem out_ff {a : Ax} (h : a.out = false) (z : a.w.1 = 0) : (decide (0 < (minusM a.l a.o).1) || decide ((minusM a.h a.o).1 < 0)) = false := by
  unfold Ax.out at h
  rw [z] at h
  simpa using h
theorem spans_no {a : Ax} (h : a.w.1 = 0) : a.spans = [] := if_pos h
theorem spans_yes {a : Ax} (h : a.w.1 ≠ 0) : a.spans = [spanOf (minusM a.l a.o) (minusM a.h a.o) a.w] := by
  unfold Ax.spans Ax.span spanOf
  rw [if_neg h]
theorem spans_lt (a : Ax) : (a.spans.map pr).length < 100000 := by
  rw [List.length_map]
  unfold Ax.spans
  split
  · decide
  · exact (by decide : 1 < 100000)
theorem spans_sz {a : Ax} (s : AxSz a) : ∀ x ∈ a.spans, PL.Ok 1000 x.1 ∧ PL.Ok 1000 x.2 := fun x hx => by
  by_cases c : a.w.1 = 0
  · rw [spans_no c] at hx
    simp at hx
  · rw [spans_yes c] at hx
    obtain rfl := List.mem_singleton.mp hx
    have h1 := ok_over (PL.ok_minus s.l s.o) s.w c
    have h2 := ok_over (PL.ok_minus s.h s.o) s.w c
    unfold spanOf
    split
    · exact ⟨h1.mono (by decide), h2.mono (by decide)⟩
    · exact ⟨h2.mono (by decide), h1.mono (by decide)⟩
theorem s_rtP {K : PySem.W.Frag} {ρ : Rho} {I J J' : Asn} {d : Dat} {ts : TS} (hj : ∀ G H, J.ok G H → J'.ok G H) (h : S K ts ρ I (.rt d J)) : S K ts ρ I (.rt d J') := fun G H σ D gh en io f => h G H σ D gh en io fun v G2 H2 g2 gh2 j dv => f v G2 H2 g2 gh2 (hj _ _ j) dv
def RHigh (ds : List Dat) (d : Dat) : Prop := ∃ (b : Bx) (k : Int), ds = [.d (bxd b), .i k] ∧ (k = 0 ∨ k = 1) ∧ PL.Ok 4000 b.p0 ∧ PL.Ok 4000 b.p1 ∧ PL.Ok 4000 b.s0 ∧ PL.Ok 4000 b.s1 ∧ d = .d (fr (if k = 0 then plusM b.p0 b.s0 else plusM b.p1 b.s1))
def sizeM (C : DS) : (F × F) × DS :=
  let a := take C 6
  let b := take a.2 2
  let c := take b.2 6
  let e := take c.2 2
  ((lf (1 + a.1) (1 + b.1), lf (1 + c.1) (1 + e.1)), e.2)
theorem lf_up {n d : Int} (hn : 0 < n) (hd : 0 < d) : 0 < (lf n d).1 := by
  have h1 := lf_cross (n := n) (d := d) (by omega)
  have h2 := (lf_nrm (n := n) (d := d) (by omega)).1
  have h3 := Int.mul_pos hn h2
  rw [← h1] at h3
  exact Int.pos_of_mul_pos_left h3 hd
theorem size_ok {C : DS} (ok : DOk C) : DOk (sizeM C).2 ∧ PL.Ok 10 (sizeM C).1.1 ∧ PL.Ok 10 (sizeM C).1.2 ∧ 0 < (sizeM C).1.1.1 ∧ 0 < (sizeM C).1.2.1 := by
  obtain ⟨o1, a1, a2⟩ := take_ok (C := C) (m := 6) ok (by decide)
  obtain ⟨o2, b1, b2⟩ := take_ok (C := (take C 6).2) (m := 2) o1 (by decide)
  obtain ⟨o3, c1, c2⟩ := take_ok (C := (take (take C 6).2 2).2) (m := 6) o2 (by decide)
  obtain ⟨o4, e1, e2⟩ := take_ok (C := (take (take (take C 6).2 2).2 6).2) (m := 2) o3 (by decide)
  exact ⟨o4, PL.ok_lf (by omega) (by omega) (by omega), PL.ok_lf (by omega) (by omega) (by omega), lf_up (by omega) (by omega), lf_up (by omega) (by omega)⟩
def RSize (ds : List Dat) (C : DS) (d : Dat) (C' : DS) : Prop := ds = [] ∧ DOk C ∧ d = .t [fr (sizeM C).1.1, fr (sizeM C).1.2] ∧ C' = (sizeM C).2
structure SwSz (a b : Bx) (u0 u1 v0 v1 : F) : Prop where
  a0 : PL.Ok 100 a.p0
  a1 : PL.Ok 100 a.p1
  a2 : PL.Ok 100 a.s0
  a3 : PL.Ok 100 a.s1
  b0 : PL.Ok 100 b.p0
  b1 : PL.Ok 100 b.p1
  b2 : PL.Ok 100 b.s0
  b3 : PL.Ok 100 b.s1
  u0 : PL.Ok 100 u0
  u1 : PL.Ok 100 u1
  v0 : PL.Ok 100 v0
  v1 : PL.Ok 100 v1
structure SxSz (a : Sx) : Prop where
  la : PL.Ok 100 a.la
  sa : PL.Ok 100 a.sa
  va : PL.Ok 100 a.va
  lb : PL.Ok 100 a.lb
  sb : PL.Ok 100 a.sb
  vb : PL.Ok 100 a.vb
theorem SwSz.swap {a b : Bx} {u0 u1 v0 v1 : F} (k : SwSz a b u0 u1 v0 v1) : SwSz b a v0 v1 u0 u1 := ⟨k.b0, k.b1, k.b2, k.b3, k.a0, k.a1, k.a2, k.a3, k.v0, k.v1, k.u0, k.u1⟩
theorem SxSz.ok {a : Sx} (s : SxSz a) : a.Ok := ⟨s.la.nrm, s.sa.nrm, s.va.nrm, s.lb.nrm, s.sb.nrm, s.vb.nrm⟩
theorem SxSz.ha {a : Sx} (s : SxSz a) : PL.Ok 201 (plusM a.la a.sa) := PL.ok_plus s.la s.sa
theorem SxSz.hb {a : Sx} (s : SxSz a) : PL.Ok 201 (plusM a.lb a.sb) := PL.ok_plus s.lb s.sb
theorem SxSz.lo {a : Sx} (s : SxSz a) : PL.Ok 302 a.lo := PL.ok_minus s.la s.hb
theorem SxSz.hi {a : Sx} (s : SxSz a) : PL.Ok 302 a.hi := PL.ok_minus s.ha s.lb
theorem SxSz.w {a : Sx} (s : SxSz a) : PL.Ok 201 a.w := PL.ok_minus s.vb s.va
/-- a box with ends below 2 ^ 1500 -/
structure BxSz (b : Bx) : Prop where
  p0 : PL.Ok 1500 b.p0
  p1 : PL.Ok 1500 b.p1
  s0 : PL.Ok 100 b.s0
  s1 : PL.Ok 100 b.s1
def besideM (C : DS) (b : Bx) (s0 s1 : F) : (F × F) × DS :=
  let k := take C 2
  let x := partM k.2 2
  let y := partM x.2 2
  let u := take y.2 2
  let t := take u.2 4
  let v0 : F := if u.1 = 1 then plusM b.p0 b.s0 else lminus b.p0 s0
  let v1 : F := if u.1 = 1 then plusM b.p1 b.s1 else lminus b.p1 s1
  if k.1 = 0 then ((v0, if t.1 = 1 then b.p1 else lplus b.p1 y.1), t.2) else ((if t.1 = 1 then b.p0 else lplus b.p0 x.1, v1), t.2)
/-- a box with parts below 2 ^ 1500 -/
structure Bz (b : Bx) : Prop where
  p0 : PL.Ok 1500 b.p0
  p1 : PL.Ok 1500 b.p1
  s0 : PL.Ok 1500 b.s0
  s1 : PL.Ok 1500 b.s1
theorem Bz.h0 {b : Bx} (h : Bz b) : PL.Ok 4000 (plusM b.p0 b.s0) := (PL.ok_plus h.p0 h.s0).mono (by decide)
theorem Bz.h1 {b : Bx} (h : Bz b) : PL.Ok 4000 (plusM b.p1 b.s1) := (PL.ok_plus h.p1 h.s1).mono (by decide)
def lt0 (i j : Int) : Bool := decide (i < j)
def le0 (i j : Int) : Bool := decide (i ≤ j)
def pairM (f : Int → Int → Bool) (a b : Bx) : Bool := (f (cmpM b.p0 (plusM a.p0 a.s0)) 0 && f (cmpM a.p0 (plusM b.p0 b.s0)) 0) && (f (cmpM b.p1 (plusM a.p1 a.s1)) 0 && f (cmpM a.p1 (plusM b.p1 b.s1)) 0)
theorem gen_two (x y : Bool) : genB true [(true, x), (true, y)] = (x && y) := by cases x <;> cases y <;> rfl
def RPairs (f : Int → Int → Bool) (ds : List Dat) (d : Dat) : Prop := ∃ a b : Bx, ds = [.t [vcd a.p0 (plusM a.p0 a.s0), vcd a.p1 (plusM a.p1 a.s1)], .t [vcd b.p0 (plusM b.p0 b.s0), vcd b.p1 (plusM b.p1 b.s1)]] ∧ Bz a ∧ Bz b ∧ d = .b (pairM f a b)
def RHullE (ds : List Dat) (d : Dat) : Prop := ∃ a b : Bx, ds = [.t [vcd a.p0 (plusM a.p0 a.s0), vcd a.p1 (plusM a.p1 a.s1)], .t [vcd b.p0 (plusM b.p0 b.s0), vcd b.p1 (plusM b.p1 b.s1)]] ∧ Bz a ∧ Bz b ∧ d = .t [vcd (mn a.p0 b.p0) (mx (plusM a.p0 a.s0) (plusM b.p0 b.s0)), vcd (mn a.p1 b.p1) (mx (plusM a.p1 a.s1) (plusM b.p1 b.s1))]
theorem two_in {n : Nat} {x y : F} (hx : PL.Ok n x) (hy : PL.Ok n y) : ∀ z ∈ x :: [y], PL.Ok n z := fun z hz => by
  rcases List.mem_cons.mp hz with rfl | hz
  · exact hx
  · rw [List.mem_singleton.mp hz]
    exact hy
def RGapE (ds : List Dat) (d : Dat) : Prop := ∃ la ha lb hb : F, ds = [.d (vcd la ha), .d (vcd lb hb)] ∧ PL.Ok 1500 la ∧ PL.Ok 1601 ha ∧ PL.Ok 1500 lb ∧ PL.Ok 1601 hb ∧ d = .d (fr (mx (minusM lb ha) (minusM la hb)))
structure Bd where
  nm : Int
  bx : Bx
  ms : Int
  gr : F
  v0 : F
  v1 : F
structure BdOk (b : Bd) : Prop where
  bx : BxSz b.bx
  gr : PL.Ok 100 b.gr
  v0 : PL.Ok 1000 b.v0
  v1 : PL.Ok 1000 b.v1
structure Jt where
  a : Int
  b : Int
  k : Int
  lo : F
  hi : F
def soundM (b : Bd) : Bool := !(!b.bx.sized || (decide (b.ms < 0) || decide (1000 < b.ms))) && (!(decide (cmpM b.gr (0, 1) < 0) || decide (0 < cmpM b.gr (4, 1))) && (decide (0 < b.ms) || PyData.eqv (vcd b.v0 b.v1) (vcd (0, 1) (0, 1))))
def bad1 (bf : Int) (b : Bd) : Bool := decide (999999999 < b.nm) || (decide (b.nm ≤ bf) || !soundM b)
def badB : Int → List Bd → Bool
  | _, [] => false
  | bf, b :: bs => bad1 bf b || badB b.nm bs
def ovB : List Bx → Bool
  | [] => false
  | b :: bs => bs.any (pairM lt0 b) || ovB bs
theorem s_lessN2 {K : PySem.W.Frag} {ρ ρ' : Rho} {I : Asn} {ts : TS} {k : Out} (e : ρ = ρ') (h : S K ts ρ' I k) : S K ts ρ I k := e ▸ h
def fnd (bs : List Bd) (n : Int) : Option Bd := bs.find? fun b => decide (b.nm = n)
def wayM (x y : Bd) (k : Int) : F := if k = 0 then minusM y.bx.p0 x.bx.p0 else minusM y.bx.p1 x.bx.p1
def jbad (bs : List Bd) (j : Jt) : Bool := match fnd bs j.a, fnd bs j.b with
  | some x, some y => decide (j.a = j.b) || ((!(decide (j.k = 0) || decide (j.k = 1)) || decide (0 < cmpM j.lo j.hi)) || (decide (cmpM (wayM x y j.k) j.lo < 0) || decide (0 < cmpM (wayM x y j.k) j.hi)))
  | _, _ => true
theorem BxSz.nrm {b : Bx} (h : BxSz b) : Nrm b.p0 ∧ Nrm b.p1 ∧ Nrm b.s0 ∧ Nrm b.s1 := ⟨h.p0.nrm, h.p1.nrm, h.s0.nrm, h.s1.nrm⟩
theorem _root_.FR.Sm.ok {D B k : Nat} {a : F} (h : Sm D B a) (hD : 0 < D) (hk : D < 2 ^ k) (hb : B * D < 2 ^ k) : PL.Ok k a := ⟨h.nrm, h.sz hD hk hb⟩
theorem sm_lf {D B : Nat} {x y : Int} (hy : 0 < y) (hd : ((D : Int)) % y = 0) (hb : x.natAbs ≤ B * y.natAbs) : Sm D B (lf x y) := Sm.lf hy (Int.dvd_of_emod_eq_zero hd) hb
theorem part_sm {C : DS} {m : Nat} (h : DOk C) (hm : m ≤ 1000) : DOk (partM C (m : Nat)).2 ∧ Sm 6 (2 * m) (partM C (m : Nat)).1 := by
  obtain ⟨h1, h2, h3⟩ := take_ok (C := C) (m := 2 * ((m : Int) * 2) + 1) h (by omega)
  obtain ⟨h4, h5, h6⟩ := take_ok (C := (take C (2 * ((m : Int) * 2) + 1)).2) (m := 3) h1 (by omega)
  refine ⟨h4, sm_lf (by omega) ?_ ?_⟩
  · have e : (take (take C (2 * ((m : Int) * 2) + 1)).2 3).1 = 0 ∨ (take (take C (2 * ((m : Int) * 2) + 1)).2 3).1 = 1 ∨ (take (take C (2 * ((m : Int) * 2) + 1)).2 3).1 = 2 := by omega
    rcases e with e | e | e <;> rw [e] <;> decide
  · have : ((take C (2 * ((m : Int) * 2) + 1)).1 - (m : Int) * 2).natAbs ≤ 2 * m := by omega
    have e : 1 ≤ (1 + (take (take C (2 * ((m : Int) * 2) + 1)).2 3).1).natAbs := by omega
    exact Nat.le_trans this (Nat.le_mul_of_pos_right _ e)
theorem vec_sm {C : DS} {m : Nat} (h : DOk C) (hm : m ≤ 1000) : DOk (vecM C (m : Nat)).2 ∧ Sm 6 (2 * m) (vecM C (m : Nat)).1.1 ∧ Sm 6 (2 * m) (vecM C (m : Nat)).1.2 :=
  ⟨(part_sm (part_sm h hm).1 hm).1, (part_sm h hm).2, (part_sm (part_sm h hm).1 hm).2⟩
theorem size_sm {C : DS} (ok : DOk C) : DOk (sizeM C).2 ∧ Sm 2 6 (sizeM C).1.1 ∧ Sm 2 6 (sizeM C).1.2 ∧ 0 < (sizeM C).1.1.1 ∧ 0 < (sizeM C).1.2.1 := by
  obtain ⟨o1, a1, a2⟩ := take_ok (C := C) (m := 6) ok (by decide)
  obtain ⟨o2, b1, b2⟩ := take_ok (C := (take C 6).2) (m := 2) o1 (by decide)
  obtain ⟨o3, c1, c2⟩ := take_ok (C := (take (take C 6).2 2).2) (m := 6) o2 (by decide)
  obtain ⟨o4, e1, e2⟩ := take_ok (C := (take (take (take C 6).2 2).2 6).2) (m := 2) o3 (by decide)
  obtain ⟨_, _, _, u0, u1⟩ := size_ok ok
  have key : ∀ x y : Int, 0 ≤ x → x < 6 → 0 ≤ y → y < 2 → Sm 2 6 (lf (1 + x) (1 + y)) := fun x y h1 h2 h3 h4 => by
    refine sm_lf (by omega) ?_ ?_
    · have e : y = 0 ∨ y = 1 := by omega
      rcases e with rfl | rfl <;> decide
    · have e : 1 ≤ (1 + y).natAbs := by omega
      exact Nat.le_trans (show (1 + x).natAbs ≤ 6 by omega) (Nat.le_mul_of_pos_right _ e)
  exact ⟨o4, key _ _ a1 a2 b1 b2, key _ _ c1 c2 e1 e2, u0, u1⟩
structure BN (n : Nat) (b : Bx) : Prop where
  p0 : Sm 6 n b.p0
  p1 : Sm 6 n b.p1
  s0 : Sm 2 6 b.s0
  s1 : Sm 2 6 b.s1
structure B20 (b : Bx) : Prop where
  p0 : PL.Ok 20 b.p0
  p1 : PL.Ok 20 b.p1
  s0 : PL.Ok 20 b.s0
  s1 : PL.Ok 20 b.s1
theorem BN.mono {m n : Nat} {b : Bx} (h : BN m b) (hm : m ≤ n) : BN n b := ⟨h.p0.up hm, h.p1.up hm, h.s0, h.s1⟩
theorem BN.o {n : Nat} {b : Bx} (h : BN n b) (hn : n ≤ 10000) : B20 b := ⟨h.p0.ok (by decide) (by decide) (by omega), h.p1.ok (by decide) (by decide) (by omega), h.s0.ok (by decide) (by decide) (by decide), h.s1.ok (by decide) (by decide) (by decide)⟩
theorem BN.sz {n : Nat} {b : Bx} (h : BN n b) (hn : n ≤ 10000) : BxSz b := ⟨(h.o hn).p0.mono (by decide), (h.o hn).p1.mono (by decide), (h.o hn).s0.mono (by decide), (h.o hn).s1.mono (by decide)⟩
theorem BN.h0 {n : Nat} {b : Bx} (h : BN n b) : Sm 6 (n + 6) (plusM b.p0 b.s0) := h.p0.plus (h.s0.mono (by decide) (Nat.le_refl _))
theorem BN.h1 {n : Nat} {b : Bx} (h : BN n b) : Sm 6 (n + 6) (plusM b.p1 b.s1) := h.p1.plus (h.s1.mono (by decide) (Nat.le_refl _))
def RBesideG (ds : List Dat) (C : DS) (d : Dat) (C' : DS) : Prop := ∃ (n : Nat) (b : Bx) (s0 s1 : F), ds = [.d (bxd b), .t [fr s0, fr s1]] ∧ n ≤ 1000 ∧ DOk C ∧ BN n b ∧ Sm 2 6 s0 ∧ Sm 2 6 s1 ∧ d = .t [fr (besideM C b s0 s1).1.1, fr (besideM C b s0 s1).1.2] ∧ C' = (besideM C b s0 s1).2
theorem besideN_ok {n : Nat} {C : DS} {b : Bx} {s0 s1 : F} (ok : DOk C) (hb : BN n b) (h0 : Sm 2 6 s0) (h1 : Sm 2 6 s1) : DOk (besideM C b s0 s1).2 ∧ Sm 6 (n + 6) (besideM C b s0 s1).1.1 ∧ Sm 6 (n + 6) (besideM C b s0 s1).1.2 := by
  obtain ⟨o1, k1, k2⟩ := take_ok (C := C) (m := 2) ok (by decide)
  obtain ⟨o2, px⟩ := part_sm (C := (take C 2).2) (m := 2) o1 (by decide)
  obtain ⟨o3, py⟩ := part_sm (C := (partM (take C 2).2 2).2) (m := 2) o2 (by decide)
  obtain ⟨o4, u1, u2⟩ := take_ok (C := (partM (partM (take C 2).2 2).2 2).2) (m := 2) o3 (by decide)
  obtain ⟨o5, t1, t2⟩ := take_ok (C := (take (partM (partM (take C 2).2 2).2 2).2 2).2) (m := 4) o4 (by decide)
  replace px : Sm 6 4 (partM (take C 2).2 2).1 := px
  replace py : Sm 6 4 (partM (partM (take C 2).2 2).2 2).1 := py
  have a0 : Sm 6 (n + 6) (plusM b.p0 b.s0) := hb.h0
  have a1 : Sm 6 (n + 6) (plusM b.p1 b.s1) := hb.h1
  have m0 : Sm 6 (n + 6) (lminus b.p0 s0) := by rw [lminus_eq hb.p0.nrm h0.nrm]; exact hb.p0.minus (h0.mono (by decide) (Nat.le_refl _))
  have m1 : Sm 6 (n + 6) (lminus b.p1 s1) := by rw [lminus_eq hb.p1.nrm h1.nrm]; exact hb.p1.minus (h1.mono (by decide) (Nat.le_refl _))
  have q0 : Sm 6 (n + 6) (lplus b.p0 (partM (take C 2).2 2).1) := by rw [lplus_eq hb.p0.nrm px.nrm]; exact (hb.p0.plus px).up (by omega)
  have q1 : Sm 6 (n + 6) (lplus b.p1 (partM (partM (take C 2).2 2).2 2).1) := by rw [lplus_eq hb.p1.nrm py.nrm]; exact (hb.p1.plus py).up (by omega)
  have r0 : Sm 6 (n + 6) b.p0 := hb.p0.up (by omega)
  have r1 : Sm 6 (n + 6) b.p1 := hb.p1.up (by omega)
  unfold besideM
  dsimp only
  split
  · refine ⟨o5, ?_, ?_⟩
    · show Sm _ _ (if _ then _ else _)
      split
      · exact a0
      · exact m0
    · show Sm _ _ (if _ then _ else _)
      split
      · exact r1
      · exact q1
  · refine ⟨o5, ?_, ?_⟩
    · show Sm _ _ (if _ then _ else _)
      split
      · exact r0
      · exact q0
    · show Sm _ _ (if _ then _ else _)
      split
      · exact a1
      · exact m1
/-- a new box beside one of bs -/
def RBoxN (K : PySem.W.Frag) (ds : List Dat) (C : DS) (Z : Asn) (Po : Dat → DS → Prop) : Prop := ∃ (n : Nat) (bs : List Bx), DOk C ∧ (10 ≤ n ∧ n ≤ 1000) ∧ (∀ b ∈ bs, BN n b) ∧ bs.length ≤ 1000 ∧ ((ds = [.d (.list (bs.map fun b => bxd b))] ∧ Z = .tt) ∨ ∃ q, ds = [.r q] ∧ Z = lA K q (bs.map fun b => bxd b)) ∧
  Po = fun d C' => DOk C' ∧ ∃ b, d = .d (bxd b) ∧ BN (n + 6) b ∧ b.sized = true
theorem s_retZ {K : PySem.W.Frag} {ρ : Rho} {I J Z : Asn} {ts : TS} {d : Dat} {p : Addr} {C' : DS} {Po : Dat → DS → Prop} (h : S K ts ρ I (.rt d (dJ K p C' (Z.and J)))) (po : Po d C') : S K ts ρ I (outN K p J Po) := s_ofRt h fun v G H gh j dv => ⟨d, C', po, ⟨j.1, j.2.2⟩, dv⟩
theorem e_varM {K : PySem.W.Frag} {ρ : Rho} {I : Asn} {i : Nat} {d : Dat} (h : ρ[i]? = some (some d)) : PL.E K (tVar i) ρ I d I := e_var h
structure BdM (n : Nat) (b : Bd) : Prop where
  bx : BN n b.bx
  sz : b.bx.sized = true
  gr : Sm 2 2 b.gr
  v0 : Sm 6 6 b.v0
  v1 : Sm 6 6 b.v1
  ms : b.ms ≤ 4
theorem BdM.mono {m n : Nat} {b : Bd} (h : BdM m b) (hm : m ≤ n) : BdM n b := ⟨h.bx.mono hm, h.sz, h.gr, h.v0, h.v1, h.ms⟩
theorem BdM.ok {n : Nat} {b : Bd} (h : BdM n b) (hn : n ≤ 10000) : BdOk b := ⟨h.bx.sz hn, h.gr.ok (by decide) (by decide) (by decide), h.v0.ok (by decide) (by decide) (by decide), h.v1.ok (by decide) (by decide) (by decide)⟩
structure BSt where
  bs : List Bd
  nm : Int
  C : DS
def BSt.W (i : Nat) (a : BSt) : Prop := DOk a.C ∧ a.bs.length ≤ i ∧ (0 < i → a.bs ≠ []) ∧ (∀ b ∈ a.bs, BdM (10 + 6 * i) b ∧ b.nm < a.nm) ∧ 0 ≤ a.nm ∧ a.nm ≤ 2 + 3 * (i : Nat) ∧ badB (-1) a.bs = false ∧ ovB (a.bs.map (·.bx)) = false
structure JtN (j : Jt) : Prop where
  lo : Sm 6 802 j.lo
  hi : Sm 6 802 j.hi
  k : j.k = 0 ∨ j.k = 1
structure JSt where
  js : List Jt
  C : DS
def JSt.W (bs : List Bd) (i : Nat) (a : JSt) : Prop := DOk a.C ∧ a.js.length ≤ i ∧ (∀ j ∈ a.js, JtN j) ∧ a.js.any (jbad bs) = false
/-- pushes: names and vectors -/
abbrev Pu := Int × (F × F)
/-! ### meetings -/
structure PSt where
  ps : List Pu
  C : DS
def mvN (bs : List Bd) : List Int := (bs.filter fun b => decide (0 < b.ms)).map (·.nm)
def PSt.W (bs : List Bd) (i : Nat) (a : PSt) : Prop := DOk a.C ∧ a.ps.length ≤ i ∧ (∀ z ∈ a.ps, Sm 6 8 z.2.1 ∧ Sm 6 8 z.2.2) ∧ (a.ps.map (·.1)).Sublist (mvN (bs.take i))
/-! ### insertion -/
/-! ### pairs -/
/-! ### boxes by their ends -/
structure En where
  l0 : F
  h0 : F
  l1 : F
  h1 : F
deriving DecidableEq
abbrev enD (e : En) : PyData := .tuple [vcd e.l0 e.h0, vcd e.l1 e.h1]
def ofB (b : Bx) : En := ⟨b.p0, plusM b.p0 b.s0, b.p1, plusM b.p1 b.s1⟩
def toB (e : En) : Bx := ⟨e.l0, e.l1, minusM e.h0 e.l0, minusM e.h1 e.l1⟩
structure EnOk (e : En) : Prop where
  l0 : Sm 6 1006 e.l0
  h0 : Sm 6 1006 e.h0
  l1 : Sm 6 1006 e.l1
  h1 : Sm 6 1006 e.h1
  a0 : vl e.l0 ≤ vl e.h0
  a1 : vl e.l1 ≤ vl e.h1
theorem back_plus {a b : F} (ha : Nrm a) (hb : Nrm b) : plusM a (minusM b a) = b := vl_inj (plus_nrm ha (minus_nrm hb ha)) hb (by rw [vl_plus ha (minus_nrm hb ha), vl_minus hb ha]; grind)
theorem of_to {e : En} (h : EnOk e) : ofB (toB e) = e := by
  unfold ofB toB
  rw [back_plus h.l0.nrm h.h0.nrm, back_plus h.l1.nrm h.h1.nrm]
theorem sm_ok {D B : Nat} {a : F} (h : Sm D B a) (hD : 0 < D) (hk : D < 2 ^ 40) (hb : B * D < 2 ^ 40) : PL.Ok 40 a := ⟨h.nrm, h.sz hD hk hb⟩
theorem EnOk.o (e : En) (h : EnOk e) : PL.Ok 40 e.l0 ∧ PL.Ok 40 e.h0 ∧ PL.Ok 40 e.l1 ∧ PL.Ok 40 e.h1 := ⟨sm_ok h.l0 (by decide) (by decide) (by decide), sm_ok h.h0 (by decide) (by decide) (by decide), sm_ok h.l1 (by decide) (by decide) (by decide), sm_ok h.h1 (by decide) (by decide) (by decide)⟩
theorem to_ok {e : En} (h : EnOk e) : PL.Ok 40 (toB e).p0 ∧ PL.Ok 40 (toB e).p1 ∧ PL.Ok 40 (toB e).s0 ∧ PL.Ok 40 (toB e).s1 :=
  ⟨sm_ok h.l0 (by decide) (by decide) (by decide), sm_ok h.l1 (by decide) (by decide) (by decide), sm_ok (h.h0.minus h.l0) (by decide) (by decide) (by decide), sm_ok (h.h1.minus h.l1) (by decide) (by decide) (by decide)⟩
theorem ofB_ok {b : Bx} {n : Nat} (h : BN n b) (hn : n ≤ 1000) (hs : b.sized = true) : EnOk (ofB b) := by
  have q : (0 < b.s0.1) ∧ 0 < b.s1.1 := by
    unfold Bx.sized at hs
    simpa using hs
  have v0 := (vl_pos h.s0.nrm.1).mpr q.1
  have v1 := (vl_pos h.s1.nrm.1).mpr q.2
  have s0 : Sm 6 6 b.s0 := h.s0.mono (by decide) (by decide)
  have s1 : Sm 6 6 b.s1 := h.s1.mono (by decide) (by decide)
  refine ⟨h.p0.up (by omega), (h.p0.plus s0).up (by omega), h.p1.up (by omega), (h.p1.plus s1).up (by omega), ?_, ?_⟩
  · show vl b.p0 ≤ vl (plusM b.p0 b.s0)
    rw [vl_plus h.p0.nrm h.s0.nrm]
    grind
  · show vl b.p1 ≤ vl (plusM b.p1 b.s1)
    rw [vl_plus h.p1.nrm h.s1.nrm]
    grind
/-- a lies within b -/
structure InE (a b : En) : Prop where
  l0 : vl b.l0 ≤ vl a.l0
  h0 : vl a.h0 ≤ vl b.h0
  l1 : vl b.l1 ≤ vl a.l1
  h1 : vl a.h1 ≤ vl b.h1
theorem InE.refl (a : En) : InE a a := ⟨Rat.le_refl, Rat.le_refl, Rat.le_refl, Rat.le_refl⟩
theorem InE.trans {a b c : En} (h : InE a b) (k : InE b c) : InE a c := ⟨Rat.le_trans k.l0 h.l0, Rat.le_trans h.h0 k.h0, Rat.le_trans k.l1 h.l1, Rat.le_trans h.h1 k.h1⟩
def hullE (a b : En) : En := ⟨mn a.l0 b.l0, mx a.h0 b.h0, mn a.l1 b.l1, mx a.h1 b.h1⟩
theorem mn_sm {a b : F} {D B : Nat} (ha : Sm D B a) (hb : Sm D B b) : Sm D B (mn a b) ∧ vl (mn a b) ≤ vl a ∧ vl (mn a b) ≤ vl b := by
  rcases mn_eq a b ha.nrm.1 hb.nrm.1 with ⟨e, l⟩ | ⟨e, l⟩
  · rw [e]; exact ⟨ha, Rat.le_refl, l⟩
  · rw [e]; exact ⟨hb, l, Rat.le_refl⟩
theorem mx_sm {a b : F} {D B : Nat} (ha : Sm D B a) (hb : Sm D B b) : Sm D B (mx a b) ∧ vl a ≤ vl (mx a b) ∧ vl b ≤ vl (mx a b) := by
  rcases mx_eq a b ha.nrm.1 hb.nrm.1 with ⟨e, l⟩ | ⟨e, l⟩
  · rw [e]; exact ⟨ha, Rat.le_refl, l⟩
  · rw [e]; exact ⟨hb, l, Rat.le_refl⟩
theorem hull_ok {a b : En} (ha : EnOk a) (hb : EnOk b) : EnOk (hullE a b) ∧ InE a (hullE a b) ∧ InE b (hullE a b) := by
  obtain ⟨x1, x2, x3⟩ := mn_sm ha.l0 hb.l0
  obtain ⟨y1, y2, y3⟩ := mx_sm ha.h0 hb.h0
  obtain ⟨z1, z2, z3⟩ := mn_sm ha.l1 hb.l1
  obtain ⟨w1, w2, w3⟩ := mx_sm ha.h1 hb.h1
  exact ⟨⟨x1, y1, z1, w1, Rat.le_trans x2 (Rat.le_trans ha.a0 y2), Rat.le_trans z2 (Rat.le_trans ha.a1 w2)⟩, ⟨x2, y2, z2, w2⟩, ⟨x3, y3, z3, w3⟩⟩
/-- boxes meet, by the ends -/
def meetE (a b : En) : Bool := (le0 (cmpM b.l0 a.h0) 0 && le0 (cmpM a.l0 b.h0) 0) && (le0 (cmpM b.l1 a.h1) 0 && le0 (cmpM a.l1 b.h1) 0)
theorem le0_iff {x y : F} (hx : Nrm x) (hy : Nrm y) : le0 (cmpM x y) 0 = true ↔ vl x ≤ vl y := by
  unfold le0
  rw [decide_eq_true_iff]
  have := cmp_gt0 hx hy
  constructor
  · intro h
    have n : ¬ vl y < vl x := fun z => by have := this.mpr z; omega
    exact Rat.not_lt.mp n
  · intro h
    have n : ¬ 0 < cmpM x y := fun z => Rat.not_lt.mpr h (this.mp z)
    omega
theorem meet_iff {a b : En} (ha : EnOk a) (hb : EnOk b) : meetE a b = true ↔ (vl b.l0 ≤ vl a.h0 ∧ vl a.l0 ≤ vl b.h0) ∧ (vl b.l1 ≤ vl a.h1 ∧ vl a.l1 ≤ vl b.h1) := by
  unfold meetE
  rw [Bool.and_eq_true, Bool.and_eq_true, Bool.and_eq_true, le0_iff hb.l0.nrm ha.h0.nrm, le0_iff ha.l0.nrm hb.h0.nrm, le0_iff hb.l1.nrm ha.h1.nrm, le0_iff ha.l1.nrm hb.h1.nrm]
theorem meet_up {a c b : En} (ha : EnOk a) (hc : EnOk c) (hb : EnOk b) (h : InE a c) (m : meetE a b = true) : meetE c b = true := by
  obtain ⟨⟨m1, m2⟩, m3, m4⟩ := (meet_iff ha hb).mp m
  exact (meet_iff hc hb).mpr ⟨⟨Rat.le_trans m1 h.h0, Rat.le_trans h.l0 m2⟩, Rat.le_trans m3 h.h1, Rat.le_trans h.l1 m4⟩
theorem meet_in {a c : En} (ha : EnOk a) (hc : EnOk c) (h : InE a c) : meetE c a = true :=
  (meet_iff hc ha).mpr ⟨⟨Rat.le_trans ha.a0 h.h0, Rat.le_trans h.l0 ha.a0⟩, Rat.le_trans ha.a1 h.h1, Rat.le_trans h.l1 ha.a1⟩
/-! ### trees -/
inductive Nd where
  | leaf (n : Int) (e : En)
  | node (e : En) (h : Nat) (x y : Nd)
def Nd.en : Nd → En
  | .leaf _ e => e
  | .node e _ _ _ => e
def Nd.ht : Nd → Nat
  | .leaf _ _ => 1
  | .node _ h _ _ => h
def Nd.lvs : Nd → List (Int × En)
  | .leaf n e => [(n, e)]
  | .node _ _ x y => x.lvs ++ y.lvs
def Nd.sz : Nd → Nat
  | .leaf _ _ => 1
  | .node _ _ x y => 1 + x.sz + y.sz
def ndD : Nd → PyData
  | .leaf n e => .tuple [enD e, .int 1, .int n, .tuple []]
  | .node e h x y => .tuple [enD e, .int (h : Nat), .none, .tuple [ndD x, ndD y]]
def topD : Option Nd → PyData
  | none => .none
  | some t => ndD t
def brM (x y : Nd) : Nd := .node (hullE x.en y.en) (1 + max x.ht y.ht) x y
/-- hulls and heights are as they should be -/
inductive NdOk : Nd → Prop
  | leaf {n : Int} {e : En} (h : EnOk e) : NdOk (.leaf n e)
  | node {x y : Nd} (hx : NdOk x) (hy : NdOk y) : NdOk (brM x y)
theorem NdOk.en {t : Nd} (h : NdOk t) : EnOk t.en := by
  induction h with
  | leaf h => exact h
  | node _ _ ix iy => exact (hull_ok ix iy).1
theorem NdOk.inE {t : Nd} (h : NdOk t) : ∀ z ∈ t.lvs, EnOk z.2 ∧ InE z.2 t.en := by
  induction h with
  | leaf h =>
    intro z hz
    obtain rfl := List.mem_singleton.mp hz
    exact ⟨h, .refl _⟩
  | node hx hy ix iy =>
      intro z hz
      obtain ⟨_, h1, h2⟩ := hull_ok hx.en hy.en
      rcases List.mem_append.mp hz with hz | hz
      · exact ⟨(ix z hz).1, (ix z hz).2.trans h1⟩
      · exact ⟨(iy z hz).1, (iy z hz).2.trans h2⟩
theorem NdOk.pos {t : Nd} (h : NdOk t) : 1 ≤ t.ht ∧ t.ht ≤ t.lvs.length := by
  induction h with
  | leaf _ => exact ⟨Nat.le_refl _, Nat.le_refl _⟩
  | @node x y _ _ ix iy =>
    show 1 ≤ 1 + max x.ht y.ht ∧ 1 + max x.ht y.ht ≤ (x.lvs ++ y.lvs).length
    rw [List.length_append]
    omega
def balC (one other : Nd) : Nd := if other.ht - one.ht < 2 then brM one other else match other with
    | .leaf _ _ => brM one other
    | .node _ _ low high => brM (brM one (if high.ht < low.ht then high else low)) (if high.ht < low.ht then low else high)
def balM (x y : Nd) : Nd := if y.ht < x.ht then balC y x else balC x y
theorem balC_ok {one other : Nd} (h1 : NdOk one) (h2 : NdOk other) : NdOk (balC one other) ∧ (balC one other).lvs.Perm (one.lvs ++ other.lvs) := by
  unfold balC
  by_cases c : other.ht - one.ht < 2
  · rw [if_pos c]
    exact ⟨.node h1 h2, .refl _⟩
  · rw [if_neg c]
    cases h2 with
    | leaf h => exact ⟨.node h1 (.leaf h), .refl _⟩
    | @node low high hl hh =>
      show NdOk (brM (brM one (if high.ht < low.ht then high else low)) (if high.ht < low.ht then low else high)) ∧ (brM (brM one (if high.ht < low.ht then high else low)) (if high.ht < low.ht then low else high)).lvs.Perm (one.lvs ++ (low.lvs ++ high.lvs))
      by_cases c2 : high.ht < low.ht
      · rw [if_pos c2, if_pos c2]
        refine ⟨.node (.node h1 hh) hl, ?_⟩
        show ((one.lvs ++ high.lvs) ++ low.lvs).Perm _
        rw [List.append_assoc]
        exact List.Perm.append_left _ List.perm_append_comm
      · rw [if_neg c2, if_neg c2]
        refine ⟨.node (.node h1 hl) hh, ?_⟩
        show ((one.lvs ++ low.lvs) ++ high.lvs).Perm _
        rw [List.append_assoc]
theorem bal_ok {x y : Nd} (hx : NdOk x) (hy : NdOk y) : NdOk (balM x y) ∧ (balM x y).lvs.Perm (x.lvs ++ y.lvs) := by
  unfold balM
  by_cases c : y.ht < x.ht
  · rw [if_pos c]
    obtain ⟨a, b⟩ := balC_ok hy hx
    exact ⟨a, b.trans List.perm_append_comm⟩
  · rw [if_neg c]
    exact balC_ok hx hy
def girthM (e : En) : F := plusM (minusM e.h0 e.l0) (minusM e.h1 e.l1)
def growM (a b : En) : F := minusM (girthM (hullE a b)) (girthM a)
def withM : Nd → Int → En → Nd
  | .leaf m f, n, e => brM (.leaf m f) (.leaf n e)
  | .node _ _ x y, n, e => if 0 < cmpM (growM x.en e) (growM y.en e) then balM (withM y n e) x else balM (withM x n e) y
theorem with_ok {t : Nd} (h : NdOk t) {n : Int} {e : En} (he : EnOk e) : NdOk (withM t n e) ∧ (withM t n e).lvs.Perm ((n, e) :: t.lvs) := by
  induction h with
  | @leaf m f h =>
    refine ⟨.node (.leaf h) (.leaf he), ?_⟩
    exact List.Perm.swap _ _ _
  | @node x y hx hy ix iy =>
    show NdOk (if 0 < cmpM (growM x.en e) (growM y.en e) then balM (withM y n e) x else balM (withM x n e) y) ∧ (if 0 < cmpM (growM x.en e) (growM y.en e) then balM (withM y n e) x else balM (withM x n e) y).lvs.Perm ((n, e) :: (x.lvs ++ y.lvs))
    by_cases c : 0 < cmpM (growM x.en e) (growM y.en e)
    · rw [if_pos c]
      obtain ⟨a, b⟩ := bal_ok iy.1 hx
      refine ⟨a, b.trans ?_⟩
      exact (List.Perm.append_right _ iy.2).trans ((List.perm_append_comm (l₁ := y.lvs) (l₂ := x.lvs)).cons _)
    · rw [if_neg c]
      obtain ⟨a, b⟩ := bal_ok ix.1 hy
      exact ⟨a, b.trans (List.Perm.append_right _ ix.2)⟩
/-- a tree, or None, without a leaf -/
def wout : Nd → Int → En → Option Nd
  | .leaf m f, n, e => if PyData.eqv (ndD (.leaf m f)) (ndD (.leaf n e)) = true then none else some (.leaf m f)
  | .node f h x y, n, e => if meetE f e = true then match wout x n e with
      | none => some y
      | some r => match wout y n e with
        | none => some r
        | some q => some (balM r q)
    else some (.node f h x y)
def lvsO : Option Nd → List (Int × En)
  | none => []
  | some t => t.lvs
theorem ev_leaf {m n : Int} {f e : En} : PyData.eqv (ndD (.leaf m f)) (ndD (.leaf n e)) = decide ((m, f) = (n, e)) := by
  obtain ⟨a1, a2, a3, a4⟩ := f
  obtain ⟨b1, b2, b3, b4⟩ := e
  unfold ndD
  simp only [PyData.eqv, PyData.eqvAll, Bool.and_true]
  rw [Bool.eq_iff_iff]
  simp only [Bool.and_eq_true, beq_iff_eq, decide_eq_true_eq, Prod.mk.injEq, En.mk.injEq]
  constructor
  · rintro ⟨⟨⟨⟨h1, h2⟩, h3, h4⟩, ⟨h5, h6⟩, h7, h8⟩, _, h9⟩
    exact ⟨h9, Prod.ext h1 h2, Prod.ext h3 h4, Prod.ext h5 h6, Prod.ext h7 h8⟩
  · rintro ⟨rfl, rfl, rfl, rfl, rfl⟩
    simp
theorem ev_node {f e : En} {h : Nat} {x y : Nd} {n : Int} : PyData.eqv (ndD (.node f h x y)) (ndD (.leaf n e)) = false := by
  unfold ndD
  simp [PyData.eqv, PyData.eqvAll]
abbrev notL (n : Int) (e : En) (z : Int × En) : Bool := !decide (z = (n, e))
theorem filt_all {n : Int} {e : En} {ls : List (Int × En)} (h : (n, e) ∉ ls) : ls.filter (notL n e) = ls := List.filter_eq_self.mpr fun z hz => by
  unfold notL
  have c : ¬ z = (n, e) := fun c => h (by rw [← c]; exact hz)
  rw [decide_eq_false c]
  rfl
theorem NdOk.ne {t : Nd} (h : NdOk t) : t.lvs ≠ [] := fun z => by
  have := h.pos
  rw [z] at this
  simp at this
  omega
theorem wout_ok {t : Nd} (h : NdOk t) {n : Int} {e : En} (he : EnOk e) (nd : (t.lvs.map (·.1)).Nodup) : (∀ r, wout t n e = some r → NdOk r) ∧ (lvsO (wout t n e)).Perm (t.lvs.filter (notL n e)) := by
  induction h with
  | @leaf m f h =>
    unfold wout
    rw [ev_leaf]
    by_cases c : (m, f) = (n, e)
    · rw [decide_eq_true c, if_pos rfl]
      refine ⟨fun r z => (by cases z), ?_⟩
      show List.Perm [] ([(m, f)].filter (notL n e))
      rw [List.filter_cons_of_neg (by simp [notL, c])]
      exact .refl _
    · rw [decide_eq_false c, if_neg Bool.false_ne_true]
      refine ⟨fun r z => by cases z; exact .leaf h, ?_⟩
      show List.Perm [(m, f)] ([(m, f)].filter (notL n e))
      rw [List.filter_cons_of_pos (by simp only [notL, decide_eq_false c]; rfl)]
      exact .refl _
  | @node x y hx hy ix iy =>
    have ok := NdOk.node hx hy
    have nd : ((x.lvs ++ y.lvs).map (·.1)).Nodup := nd
    rw [List.map_append, List.nodup_append] at nd
    obtain ⟨nx, ny, nxy⟩ := nd
    show (∀ r, (if meetE (hullE x.en y.en) e = true then match wout x n e with
      | none => some y
      | some r => match wout y n e with
        | none => some r
        | some q => some (balM r q)
    else some (.node (hullE x.en y.en) (1 + max x.ht y.ht) x y)) = some r → NdOk r) ∧ (lvsO (if meetE (hullE x.en y.en) e = true then match wout x n e with
      | none => some y
      | some r => match wout y n e with
        | none => some r
        | some q => some (balM r q)
    else some (.node (hullE x.en y.en) (1 + max x.ht y.ht) x y))).Perm ((x.lvs ++ y.lvs).filter (notL n e))
    by_cases c : meetE (hullE x.en y.en) e = true
    · rw [if_pos c, List.filter_append]
      obtain ⟨x1, x2⟩ := ix nx
      obtain ⟨y1, y2⟩ := iy ny
      cases ex : wout x n e with
      | none =>
        rw [ex] at x2
        have e0 : x.lvs.filter (notL n e) = [] := x2.symm.eq_nil
        rw [e0, List.nil_append]
        have mem : (n, e) ∈ x.lvs := by
          obtain ⟨z, hz⟩ := List.exists_mem_of_ne_nil _ hx.ne
          have q := List.filter_eq_nil_iff.mp e0 z hz
          have q2 : z = (n, e) := by simpa [notL] using q
          rw [← q2]
          exact hz
        have nin : (n, e) ∉ y.lvs := fun z => nxy n (List.mem_map.mpr ⟨_, mem, rfl⟩) n (List.mem_map.mpr ⟨_, z, rfl⟩) rfl
        rw [filt_all nin]
        exact ⟨fun r z => by cases z; exact hy, .refl _⟩
      | some r =>
        rw [ex] at x2
        have okr := x1 r ex
        cases ey : wout y n e with
        | none =>
          rw [ey] at y2
          have e0 : y.lvs.filter (notL n e) = [] := y2.symm.eq_nil
          refine ⟨fun r' z => by cases z; exact okr, ?_⟩
          rw [e0, List.append_nil]
          exact x2
        | some q =>
          rw [ey] at y2
          obtain ⟨b1, b2⟩ := bal_ok okr (y1 q ey)
          exact ⟨fun r' z => by cases z; exact b1, b2.trans (x2.append y2)⟩
    · rw [if_neg c]
      refine ⟨fun r z => by cases z; exact ok, ?_⟩
      have nin : (n, e) ∉ x.lvs ++ y.lvs := fun z => by
        obtain ⟨o, i⟩ := ok.inE (n, e) z
        exact c (meet_in o ok.en i)
      rw [filt_all nin]
      exact .refl _
/-! ### the data's shape -/
theorem lay_en (e : En) : PyData.canLay0 (enD e) = true := by simp [PyData.canLay0, PyData.canLayAll0]
theorem lay_nd : ∀ t : Nd, PyData.canLay0 (ndD t) = true
  | .leaf n e => by
    have := lay_en e
    unfold ndD
    simp [PyData.canLay0, PyData.canLayAll0]
  | .node e h x y => by
    have h1 := lay_nd x
    have h2 := lay_nd y
    unfold ndD
    simp [PyData.canLay0, PyData.canLayAll0, h1, h2]
theorem dep_nd {t : Nd} (h : NdOk t) : PyData.depth (ndD t) ≤ 2 * t.lvs.length + 2 := by
  induction h with
  | @leaf n e h =>
    show PyData.depth (.tuple [enD e, .int 1, .int n, .tuple []]) ≤ 4
    simp [PyData.depth, PyData.depthAll]
  | @node x y hx hy ix iy =>
    have px := hx.pos
    have py := hy.pos
    show PyData.depth (.tuple [enD (hullE x.en y.en), .int ((1 + max x.ht y.ht : Nat) : Nat), .none, .tuple [ndD x, ndD y]]) ≤ 2 * (x.lvs ++ y.lvs).length + 2
    rw [List.length_append]
    have e : PyData.depth (.tuple [enD (hullE x.en y.en), .int ((1 + max x.ht y.ht : Nat) : Nat), .none, .tuple [ndD x, ndD y]]) = max 3 (max (PyData.depth (ndD x)) (PyData.depth (ndD y)) + 1) + 1 := by
      simp [PyData.depth, PyData.depthAll]
    rw [e]
    omega
theorem shaped_nd {t : Nd} (h : NdOk t) (hl : t.lvs.length ≤ 30) : SeqAt.shaped (ndD t) = true := by
  unfold SeqAt.shaped
  rw [lay_nd, decide_eq_true (by have := dep_nd h; omega)]
  rfl
/-! ### nodes that wait -/
def lvL (st : List Nd) : List (Int × En) := st.flatMap Nd.lvs
def szL (st : List Nd) : Nat := (st.map Nd.sz).sum
theorem lv_app (a b : List Nd) : lvL (a ++ b) = lvL a ++ lvL b := List.flatMap_append ..
theorem lv_one (t : Nd) : lvL [t] = t.lvs := by simp [lvL]
theorem lv_two (x y : Nd) : lvL [x, y] = x.lvs ++ y.lvs := by simp [lvL]
theorem sz_app (a b : List Nd) : szL (a ++ b) = szL a + szL b := by simp [szL]
def kids : Nd → List Nd
  | .leaf _ _ => []
  | .node _ _ x y => [x, y]
theorem kids_ok {t : Nd} (h : NdOk t) : ∀ c ∈ kids t, NdOk c := by
  cases h with
  | leaf _ => exact fun c hc => by cases hc
  | node hx hy =>
    intro c hc
    rcases List.mem_cons.mp hc with rfl | hc
    · exact hx
    · rw [List.mem_singleton.mp hc]
      exact hy
theorem sz_le : ∀ t : Nd, 1 ≤ t.sz ∧ t.sz + 1 = 2 * t.lvs.length
  | .leaf _ _ => ⟨Nat.le_refl _, rfl⟩
  | .node _ _ x y => by
    have h1 := sz_le x
    have h2 := sz_le y
    show 1 ≤ 1 + x.sz + y.sz ∧ 1 + x.sz + y.sz + 1 = 2 * (x.lvs ++ y.lvs).length
    rw [List.length_append]
    omega
/-- no leaf of a node that does not meet meets -/
theorem no_meet {t : Nd} (h : NdOk t) {q : En} (hq : EnOk q) (m : ¬ meetE t.en q = true) : t.lvs.filter (fun z => meetE z.2 q) = [] := List.filter_eq_nil_iff.mpr fun z hz c => by
  obtain ⟨o, i⟩ := h.inE z hz
  exact m (meet_up o h.en hq i c)
/-! ### the least of the leaves -/
def leB (a b : Int × F) : Prop := vl a.2 < vl b.2 ∨ (vl a.2 = vl b.2 ∧ a.1 ≤ b.1)
theorem leB.refl (a : Int × F) : leB a a := .inr ⟨rfl, Int.le_refl _⟩
theorem leB.trans {a b c : Int × F} (h : leB a b) (k : leB b c) : leB a c := by
  unfold leB at *
  rcases h with h | ⟨h1, h2⟩ <;> rcases k with k | ⟨k1, k2⟩
  · exact .inl (by grind)
  · exact .inl (by grind)
  · exact .inl (by grind)
  · exact .inr ⟨h1.trans k1, Int.le_trans h2 k2⟩
structure Least (ls : List (Int × En)) (μ : En → Option F) (b : Option (Int × F)) : Prop where
  mem : ∀ c, b = some c → ∃ e, (c.1, e) ∈ ls ∧ μ e = some c.2
  le : ∀ n e w, (n, e) ∈ ls → μ e = some w → ∃ c, b = some c ∧ leB c (n, w)
theorem Least.inj {ls ls' : List (Int × En)} {μ : En → Option F} {b b' : Option (Int × F)} (hm : ∀ z, z ∈ ls ↔ z ∈ ls') (hn : ∀ n e w, (n, e) ∈ ls → μ e = some w → Nrm w) (h : Least ls μ b) (k : Least ls' μ b') : b = b' := by
  cases hb : b with
  | none =>
    cases hb' : b' with
    | none => rfl
    | some c =>
      obtain ⟨e, m, w⟩ := k.mem c hb'
      obtain ⟨d, hd, _⟩ := h.le c.1 e c.2 ((hm _).mpr m) w
      rw [hb] at hd
      cases hd
  | some c =>
    obtain ⟨e, m, w⟩ := h.mem c hb
    obtain ⟨d, hd, l1⟩ := k.le c.1 e c.2 ((hm _).mp m) w
    obtain ⟨e2, m2, w2⟩ := k.mem d hd
    obtain ⟨c2, hc2, l2⟩ := h.le d.1 e2 d.2 ((hm _).mpr m2) w2
    rw [hb] at hc2
    cases hc2
    rw [hd]
    have n1 := hn _ _ _ m w
    have n2 := hn _ _ _ ((hm _).mpr m2) w2
    have eq : vl c.2 = vl d.2 ∧ c.1 = d.1 := by
      unfold leB at l1 l2
      rcases l1 with l1 | ⟨l1, k1⟩ <;> rcases l2 with l2 | ⟨l2, k2⟩
      · grind
      · grind
      · grind
      · exact ⟨l1.symm, by have k1 : d.1 ≤ c.1 := k1; have k2 : c.1 ≤ d.1 := k2; omega⟩
    rw [Prod.ext eq.2 (vl_inj n1 n2 eq.1)]
/-- greater boxes are worth no more -/
structure Mono (μ : En → Option F) : Prop where
  no : ∀ a c, EnOk a → EnOk c → InE a c → μ c = none → μ a = none
  le : ∀ a c v w, EnOk a → EnOk c → InE a c → μ c = some v → μ a = some w → vl v ≤ vl w
  nrm : ∀ a w, EnOk a → μ a = some w → PL.Ok 4000 w
/-- what a way down the tree has: b is the least of all that is not under the nodes that wait -/
structure Way (ls : List (Int × En)) (μ : En → Option F) (st : List Nd) (b : Option (Int × F)) : Prop where
  ok : ∀ t ∈ st, NdOk t
  sub : ∀ z ∈ lvL st, z ∈ ls
  mem : ∀ c, b = some c → PL.Ok 4000 c.2 ∧ ∃ e, (c.1, e) ∈ ls ∧ μ e = some c.2
  le : ∀ n e w, (n, e) ∈ ls → μ e = some w → (n, e) ∈ lvL st ∨ ∃ c, b = some c ∧ leB c (n, w)
theorem Way.start {t : Nd} (h : NdOk t) {μ : En → Option F} : Way t.lvs μ [t] none :=
  ⟨fun c hc => by rw [List.mem_singleton.mp hc]; exact h, fun z hz => by rw [lv_one] at hz; exact hz, fun c z => (by cases z), fun n e w m _ => .inl (by rw [lv_one]; exact m)⟩
theorem Way.done {ls : List (Int × En)} {μ : En → Option F} {b : Option (Int × F)} (h : Way ls μ [] b) : Least ls μ b :=
  ⟨fun c z => (h.mem c z).2, fun n e w m k => (h.le n e w m k).elim (fun z => by cases z) id⟩
/-- a node is passed over -/
theorem Way.skip {ls : List (Int × En)} {μ : En → Option F} {st : List Nd} {t : Nd} {b : Option (Int × F)} (h : Way ls μ (st ++ [t]) b) (mo : Mono μ) (hs : μ t.en = none ∨ ∃ v c, μ t.en = some v ∧ b = some c ∧ vl c.2 < vl v) : Way ls μ st b := by
  refine ⟨fun c hc => h.ok c (List.mem_append_left _ hc), fun z hz => h.sub z (by rw [lv_app]; exact List.mem_append_left _ hz), h.mem, fun n e w m k => ?_⟩
  rcases h.le n e w m k with z | z
  · rw [lv_app, lv_one] at z
    rcases List.mem_append.mp z with z | z
    · exact .inl z
    · have ot := h.ok t (List.mem_append_right _ List.mem_cons_self)
      obtain ⟨oe, ie⟩ := ot.inE _ z
      rcases hs with hs | ⟨v, c, hv, hb, lt⟩
      · rw [mo.no e t.en oe ot.en ie hs] at k
        cases k
      · exact .inr ⟨c, hb, .inl (by have := mo.le e t.en v w oe ot.en ie hv k; grind)⟩
  · exact .inr z
/-- a branch is opened -/
theorem Way.open_ {ls : List (Int × En)} {μ : En → Option F} {st : List Nd} {e : En} {h' : Nat} {x y : Nd} {b : Option (Int × F)} (h : Way ls μ (st ++ [.node e h' x y]) b) : Way ls μ (st ++ [x, y]) b := by
  have l : lvL (st ++ [x, y]) = lvL (st ++ [.node e h' x y]) := by
    rw [lv_app, lv_app, lv_two, lv_one]
    rfl
  have k := kids_ok (h.ok _ (List.mem_append_right _ List.mem_cons_self))
  refine ⟨fun c hc => ?_, fun z hz => h.sub z (by rw [← l]; exact hz), h.mem, fun n e w m k => by rw [l]; exact h.le n e w m k⟩
  rcases List.mem_append.mp hc with hc | hc
  · exact h.ok c (List.mem_append_left _ hc)
  · exact k c hc
/-- a leaf is looked at -/
theorem Way.look {ls : List (Int × En)} {μ : En → Option F} {st : List Nd} {n : Int} {e : En} {v : F} {b b' : Option (Int × F)} (h : Way ls μ (st ++ [.leaf n e]) b) (hv : μ e = some v) (ov : PL.Ok 4000 v) (hb : b' = some (n, v) ∨ (b' = b ∧ ∃ c, b = some c ∧ leB c (n, v))) (hl : ∀ c, b = some c → ∃ c', b' = some c' ∧ leB c' c) : Way ls μ st b' := by
  have me : (n, e) ∈ ls := h.sub _ (by rw [lv_app, lv_one]; exact List.mem_append_right _ List.mem_cons_self)
  refine ⟨fun c hc => h.ok c (List.mem_append_left _ hc), fun z hz => h.sub z (by rw [lv_app]; exact List.mem_append_left _ hz), fun c hc => ?_, fun m f w mm k => ?_⟩
  · rcases hb with hb | ⟨hb, _⟩
    · rw [hb] at hc
      cases hc
      exact ⟨ov, e, me, hv⟩
    · exact h.mem c (hb ▸ hc)
  · rcases h.le m f w mm k with z | ⟨c, hc, l⟩
    · rw [lv_app, lv_one] at z
      rcases List.mem_append.mp z with z | z
      · exact .inl z
      · have z := List.mem_singleton.mp z
        obtain ⟨rfl, rfl⟩ := Prod.mk.inj z
        rw [hv] at k
        cases k
        rcases hb with hb | ⟨hb, c, hc, l⟩
        · exact .inr ⟨_, hb, .refl _⟩
        · exact .inr ⟨c, hb.trans hc, l⟩
    · obtain ⟨c', hc', l'⟩ := hl c hc
      exact .inr ⟨c', hc', l'.trans l⟩
def bestD : Option (Int × F) → PyData
  | none => .none
  | some b => .tuple [.int b.1, fr b.2]
theorem least_ex {μ : En → Option F} : ∀ ls : List (Int × En), ∃ b, Least ls μ b
  | [] => ⟨none, fun c z => (by cases z), fun n e w m _ => by cases m⟩
  | (n, e) :: ls => by
    obtain ⟨b, hb⟩ := least_ex (μ := μ) ls
    have up : ∀ {b : Option (Int × F)}, (∀ c, b = some c → ∃ e', (c.1, e') ∈ ls ∧ μ e' = some c.2) → ∀ c, b = some c → ∃ e', (c.1, e') ∈ (n, e) :: ls ∧ μ e' = some c.2 := fun h c hc => by
      obtain ⟨e', m, k⟩ := h c hc
      exact ⟨e', List.mem_cons_of_mem _ m, k⟩
    cases he : μ e with
    | none =>
      refine ⟨b, up hb.mem, fun m f w mm k => ?_⟩
      rcases List.mem_cons.mp mm with z | z
      · obtain ⟨rfl, rfl⟩ := Prod.mk.inj z
        rw [he] at k
        cases k
      · exact hb.le m f w z k
    | some v =>
      by_cases c : ∃ d, b = some d ∧ leB d (n, v)
      · obtain ⟨d, hd, l⟩ := c
        refine ⟨b, up hb.mem, fun m f w mm k => ?_⟩
        rcases List.mem_cons.mp mm with z | z
        · obtain ⟨rfl, rfl⟩ := Prod.mk.inj z
          rw [he] at k
          cases k
          exact ⟨d, hd, l⟩
        · exact hb.le m f w z k
      · refine ⟨some (n, v), fun d hd => ?_, fun m f w mm k => ?_⟩
        · cases hd
          exact ⟨e, List.mem_cons_self, he⟩
        · refine ⟨_, rfl, ?_⟩
          rcases List.mem_cons.mp mm with z | z
          · obtain ⟨rfl, rfl⟩ := Prod.mk.inj z
            rw [he] at k
            cases k
            exact .refl _
          · obtain ⟨d, hd, l⟩ := hb.le m f w z k
            have nl : ¬ leB d (n, v) := fun q => c ⟨d, hd, q⟩
            refine leB.trans ?_ l
            unfold leB at nl ⊢
            have h1 : ¬ vl d.2 < vl v := fun q => nl (.inl q)
            by_cases h2 : vl v < vl d.2
            · exact .inl h2
            · have e2 : vl d.2 = vl v := by grind
              have h3 : ¬ d.1 ≤ n := fun q => nl (.inr ⟨e2, q⟩)
              exact .inr ⟨e2.symm, by show n ≤ d.1; omega⟩
def worthD : Option F → PyData
  | none => .none
  | some w => fr w
def nmD : Nd → PyData
  | .leaf n _ => .int n
  | .node _ _ _ _ => .none
def chD : Nd → PyData
  | .leaf _ _ => .tuple []
  | .node _ _ x y => .tuple [ndD x, ndD y]
theorem nd_eq (t : Nd) : ndD t = .tuple [enD t.en, .int (t.ht : Nat), nmD t, chD t] := by cases t <;> rfl
/-! ### rays: when a box is entered -/
def axE (l h o w : F) : Ax := ⟨l, h, o, w⟩
def rayT (o w : F × F) (e : En) : Option F := (rayM (axE e.l0 e.h0 o.1 w.1) (axE e.l1 e.h1 o.2 w.2)).map (·.1)
theorem ray_first {a b : Ax} (ha : a.Ok) (hb : b.Ok) : (rayM a b = none → ∀ t : F, Nrm t → 0 ≤ vl t → vl t ≤ 1 → a.inside t = true → b.inside t = true → False) ∧
    ∀ s, rayM a b = some s → Nrm s.1 ∧ 0 ≤ vl s.1 ∧ vl s.1 ≤ 1 ∧ a.inside s.1 = true ∧ b.inside s.1 = true ∧ ∀ t : F, Nrm t → 0 ≤ vl t → vl t ≤ 1 → a.inside t = true → b.inside t = true → vl s.1 ≤ vl t := by
  unfold rayM
  by_cases oa : a.out = true
  · rw [oa]
    refine ⟨fun _ t ht _ _ h1 _ => ?_, fun s z => by cases z⟩
    rw [out_none ha oa t ht] at h1
    cases h1
  by_cases ob : b.out = true
  · rw [ob, Bool.or_true]
    refine ⟨fun _ t ht _ _ _ h2 => ?_, fun s z => by cases z⟩
    rw [out_none hb ob t ht] at h2
    cases h2
  have oa : a.out = false := Bool.eq_false_iff.mpr oa
  have ob : b.out = false := Bool.eq_false_iff.mpr ob
  rw [oa, ob]
  show (spanM (a.spans ++ b.spans) = none → _) ∧ ∀ s, spanM (a.spans ++ b.spans) = some s → _
  obtain ⟨a1, _, a3, _⟩ := ax_ok ha oa
  obtain ⟨b1, _, b3, _⟩ := ax_ok hb ob
  have hn : ∀ s ∈ a.spans ++ b.spans, Nrm s.1 ∧ Nrm s.2 := fun s hs => (List.mem_append.mp hs).elim (a1 s) (b1 s)
  have ins : ∀ t : F, Nrm t → (a.inside t = true ∧ b.inside t = true ↔ ∀ s ∈ a.spans ++ b.spans, vl s.1 ≤ vl t ∧ vl t ≤ vl s.2) := fun t ht => by
    rw [a3 t ht, b3 t ht]
    exact ⟨fun ⟨h1, h2⟩ s hs => (List.mem_append.mp hs).elim (h1 s) (h2 s), fun h => ⟨fun s hs => h s (List.mem_append_left _ hs), fun s hs => h s (List.mem_append_right _ hs)⟩⟩
  generalize a.spans ++ b.spans = sp at *
  obtain ⟨f1, f2, f3⟩ := fst_ok sp (0, 1) (by decide) fun s hs => (hn s hs).1.1
  obtain ⟨l1, l2, l3⟩ := lst_ok sp (1, 1) (by decide) fun s hs => (hn s hs).2.1
  have fn : Nrm (fstM sp) := by
    rcases f1 with e | ⟨s, hs, e⟩
    · rw [show fstM sp = (0, 1) from e]; exact nrm_zero
    · rw [show fstM sp = s.1 from e]; exact (hn s hs).1
  have ln : Nrm (lstM sp) := by
    rcases l1 with e | ⟨s, hs, e⟩
    · rw [show lstM sp = (1, 1) from e]; exact nrm_unit
    · rw [show lstM sp = s.2 from e]; exact (hn s hs).2
  have least : ∀ t : F, Nrm t → 0 ≤ vl t → (∀ s ∈ sp, vl s.1 ≤ vl t ∧ vl t ≤ vl s.2) → vl (fstM sp) ≤ vl t := fun t ht h0 h => by
    rcases f1 with e | ⟨s, hs, e⟩
    · rw [show fstM sp = (0, 1) from e, vl_zero]; exact h0
    · rw [show fstM sp = s.1 from e]; exact (h s hs).1
  have most : ∀ t : F, Nrm t → vl t ≤ 1 → (∀ s ∈ sp, vl s.1 ≤ vl t ∧ vl t ≤ vl s.2) → vl t ≤ vl (lstM sp) := fun t ht h0 h => by
    rcases l1 with e | ⟨s, hs, e⟩
    · rw [show lstM sp = (1, 1) from e, vl_one]; exact h0
    · rw [show lstM sp = s.2 from e]; exact (h s hs).2
  have f2 : vl ((0, 1) : F) ≤ vl (fstM sp) := f2
  have l2 : vl (lstM sp) ≤ vl ((1, 1) : F) := l2
  rw [vl_zero] at f2
  rw [vl_one] at l2
  unfold spanM
  rw [less_vl ln.1 fn.1]
  by_cases c : vl (lstM sp) < vl (fstM sp)
  · rw [decide_eq_true c, if_pos rfl]
    refine ⟨fun _ t ht h0 h1 i1 i2 => ?_, fun s z => by cases z⟩
    have i := (ins t ht).mp ⟨i1, i2⟩
    have := least t ht h0 i
    have := most t ht h1 i
    grind
  · rw [decide_eq_false c, if_neg Bool.false_ne_true]
    refine ⟨fun z => (by cases z), fun s z => ?_⟩
    cases z
    have hf : ∀ s ∈ sp, vl s.1 ≤ vl (fstM sp) ∧ vl (fstM sp) ≤ vl s.2 := fun s hs => ⟨f3 s hs, Rat.le_trans (Rat.not_lt.mp c) (l3 s hs)⟩
    obtain ⟨i1, i2⟩ := (ins _ fn).mpr hf
    exact ⟨fn, f2, Rat.le_trans (Rat.not_lt.mp c) l2, i1, i2, fun t ht h0 h1 j1 j2 => least t ht h0 ((ins t ht).mp ⟨j1, j2⟩)⟩
structure RyOk (o w : F × F) : Prop where
  o1 : PL.Ok 200 o.1
  o2 : PL.Ok 200 o.2
  w1 : PL.Ok 200 w.1
  w2 : PL.Ok 200 w.2
theorem ax_okE {e : En} (h : EnOk e) {o w : F × F} (r : RyOk o w) : (axE e.l0 e.h0 o.1 w.1).Ok ∧ (axE e.l1 e.h1 o.2 w.2).Ok := ⟨⟨h.l0.nrm, h.h0.nrm, r.o1.nrm, r.w1.nrm⟩, ⟨h.l1.nrm, h.h1.nrm, r.o2.nrm, r.w2.nrm⟩⟩
theorem in_up {a c : En} (ha : EnOk a) (hc : EnOk c) {o w : F × F} (r : RyOk o w) (i : InE a c) {t : F} (ht : Nrm t) (h1 : (axE a.l0 a.h0 o.1 w.1).inside t = true) (h2 : (axE a.l1 a.h1 o.2 w.2).inside t = true) : (axE c.l0 c.h0 o.1 w.1).inside t = true ∧ (axE c.l1 c.h1 o.2 w.2).inside t = true := by
  obtain ⟨a1, a2⟩ := ax_okE ha r
  obtain ⟨c1, c2⟩ := ax_okE hc r
  rw [inside_iff a1 ht] at h1
  rw [inside_iff a2 ht] at h2
  rw [inside_iff c1 ht, inside_iff c2 ht]
  exact ⟨⟨Rat.le_trans i.l0 h1.1, Rat.le_trans h1.2 i.h0⟩, ⟨Rat.le_trans i.l1 h2.1, Rat.le_trans h2.2 i.h1⟩⟩
theorem ray_sz {e : En} (h : EnOk e) {o w : F × F} (r : RyOk o w) : RaySz (toB e) o.1 o.2 w.1 w.2 := ⟨(to_ok h).1.mono (by decide), (to_ok h).2.1.mono (by decide), (to_ok h).2.2.1.mono (by decide), (to_ok h).2.2.2.mono (by decide), r.o1, r.o2, r.w1, r.w2⟩
theorem ray_eq {e : En} (h : EnOk e) (o w : F × F) : rayM (cxA (toB e).p0 (toB e).s0 o.1 w.1) (cxA (toB e).p1 (toB e).s1 o.2 w.2) = rayM (axE e.l0 e.h0 o.1 w.1) (axE e.l1 e.h1 o.2 w.2) := by
  have q := of_to h
  unfold ofB at q
  have q0 : plusM (toB e).p0 (toB e).s0 = e.h0 := congrArg En.h0 q
  have q1 : plusM (toB e).p1 (toB e).s1 = e.h1 := congrArg En.h1 q
  unfold cxA axE
  rw [q0, q1]
  rfl
theorem ray_worth {e : En} {o w : F × F} : timeD (rayM (axE e.l0 e.h0 o.1 w.1) (axE e.l1 e.h1 o.2 w.2)) = worthD (rayT o w e) := by
  unfold rayT
  cases rayM (axE e.l0 e.h0 o.1 w.1) (axE e.l1 e.h1 o.2 w.2) <;> rfl
theorem ray_mono {o w : F × F} (r : RyOk o w) : Mono (rayT o w) := by
  refine ⟨fun a c ha hc i h => ?_, fun a c v u ha hc i hv hu => ?_, fun a u ha hu => ?_⟩
  · obtain ⟨a1, a2⟩ := ax_okE ha r
    obtain ⟨c1, c2⟩ := ax_okE hc r
    unfold rayT at h ⊢
    have hc0 : rayM (axE c.l0 c.h0 o.1 w.1) (axE c.l1 c.h1 o.2 w.2) = none := Option.map_eq_none_iff.mp h
    cases e : rayM (axE a.l0 a.h0 o.1 w.1) (axE a.l1 a.h1 o.2 w.2) with
    | none => rfl
    | some s =>
      obtain ⟨n, h0, h1, i1, i2, _⟩ := (ray_first a1 a2).2 s e
      obtain ⟨j1, j2⟩ := in_up ha hc r i n i1 i2
      exact ((ray_first c1 c2).1 hc0 _ n h0 h1 j1 j2).elim
  · obtain ⟨a1, a2⟩ := ax_okE ha r
    obtain ⟨c1, c2⟩ := ax_okE hc r
    unfold rayT at hv hu
    obtain ⟨s, es, rfl⟩ := Option.map_eq_some_iff.mp hv
    obtain ⟨s2, es2, rfl⟩ := Option.map_eq_some_iff.mp hu
    obtain ⟨n, h0, h1, i1, i2, _⟩ := (ray_first a1 a2).2 s2 es2
    obtain ⟨j1, j2⟩ := in_up ha hc r i n i1 i2
    exact ((ray_first c1 c2).2 s es).2.2.2.2.2 _ n h0 h1 j1 j2
  · unfold rayT at hu
    obtain ⟨s, es, rfl⟩ := Option.map_eq_some_iff.mp hu
    rw [← ray_eq ha] at es
    obtain ⟨sa, sb⟩ := cx_sz (ray_sz ha r)
    generalize cxA (toB a).p0 (toB a).s0 o.1 w.1 = A at *
    generalize cxA (toB a).p1 (toB a).s1 o.2 w.2 = B at *
    unfold rayM at es
    split at es
    · cases es
    · unfold spanM at es
      split at es
      · cases es
      · cases es
        exact fst_in fun s hs => ((List.mem_append.mp hs).elim (fun z => ((spans_sz sa) s z).1) fun z => ((spans_sz sb) s z).1).mono (by decide)
theorem en_of {e : En} (h : EnOk e) : enD e = .tuple [vcd (toB e).p0 (plusM (toB e).p0 (toB e).s0), vcd (toB e).p1 (plusM (toB e).p1 (toB e).s1)] := by
  have q := of_to h
  unfold ofB at q
  have q0 : plusM (toB e).p0 (toB e).s0 = e.h0 := congrArg En.h0 q
  have q1 : plusM (toB e).p1 (toB e).s1 = e.h1 := congrArg En.h1 q
  rw [q0, q1]
  rfl
theorem bz_en {e : En} (h : EnOk e) : Bz (toB e) := ⟨(to_ok h).1.mono (by decide), (to_ok h).2.1.mono (by decide), (to_ok h).2.2.1.mono (by decide), (to_ok h).2.2.2.mono (by decide)⟩
theorem to_hi {e : En} (h : EnOk e) : plusM (toB e).p0 (toB e).s0 = e.h0 ∧ plusM (toB e).p1 (toB e).s1 = e.h1 := by
  have q := of_to h
  unfold ofB at q
  exact ⟨congrArg En.h0 q, congrArg En.h1 q⟩
theorem rp_en {a b : En} (ha : EnOk a) (hb : EnOk b) : RPairs le0 [.d (enD a), .d (enD b)] (.b (meetE a b)) := by
  refine ⟨toB a, toB b, by rw [en_of ha, en_of hb], bz_en ha, bz_en hb, ?_⟩
  unfold pairM meetE
  rw [(to_hi ha).1, (to_hi ha).2, (to_hi hb).1, (to_hi hb).2]
  rfl
theorem rh_en {a b : En} (ha : EnOk a) (hb : EnOk b) : RHullE [.d (enD a), .d (enD b)] (.d (enD (hullE a b))) := by
  refine ⟨toB a, toB b, by rw [en_of ha, en_of hb], bz_en ha, bz_en hb, ?_⟩
  rw [(to_hi ha).1, (to_hi ha).2, (to_hi hb).1, (to_hi hb).2]
  rfl
theorem nd_tup (t : Nd) : ∃ nm ch, ndD t = .tuple [enD t.en, .int (t.ht : Nat), nm, ch] := by
  cases t with
  | leaf n e => exact ⟨_, _, rfl⟩
  | node e h x y => exact ⟨_, _, rfl⟩
def RPointE (ds : List Dat) (d : Dat) : Prop := ∃ x : F × F, ds = [.d (vcd x.1 x.2)] ∧ d = .t [vcd x.1 x.1, vcd x.2 x.2]
def RDot (ds : List Dat) (d : Dat) : Prop := ∃ a b x y : F, ds = [.t [fr a, fr b], .t [fr x, fr y]] ∧ PL.Ok 1800 a ∧ PL.Ok 1800 b ∧ PL.Ok 1800 x ∧ PL.Ok 1800 y ∧ d = .d (fr (plusM (timesM a x) (timesM b y)))
def RLeaf (ds : List Dat) (d : Dat) : Prop := ∃ (n : Int) (e : En), ds = [.i n, .d (enD e)] ∧ d = .d (ndD (.leaf n e))
def RBr (ds : List Dat) (d : Dat) : Prop := ∃ x y : Nd, ds = [.d (ndD x), .d (ndD y)] ∧ NdOk x ∧ NdOk y ∧ d = .d (ndD (brM x y))
def RBal (ds : List Dat) (d : Dat) : Prop := ∃ x y : Nd, ds = [.d (ndD x), .d (ndD y)] ∧ NdOk x ∧ NdOk y ∧ d = .d (ndD (balM x y))
def RGirth (ds : List Dat) (d : Dat) : Prop := ∃ e : En, ds = [.d (enD e)] ∧ EnOk e ∧ d = .d (fr (girthM e))
def RGrow (ds : List Dat) (d : Dat) : Prop := ∃ (t : Nd) (n : Int) (e : En), ds = [.d (ndD t), .d (ndD (.leaf n e))] ∧ NdOk t ∧ EnOk e ∧ d = .d (fr (growM t.en e))
def htO : Option Nd → Nat
  | none => 0
  | some t => t.ht
def withO : Option Nd → Int → En → Nd
  | none, n, e => .leaf n e
  | some t, n, e => withM t n e
def RWith (k : Nat) (ds : List Dat) (d : Dat) : Prop := ∃ (o : Option Nd) (n : Int) (e : En), ds = [.d (topD o), .d (ndD (.leaf n e))] ∧ (∀ t, o = some t → NdOk t) ∧ EnOk e ∧ htO o < k ∧ d = .d (ndD (withO o n e))
def RWout (k : Nat) (ds : List Dat) (d : Dat) : Prop := ∃ (t : Nd) (n : Int) (e : En), ds = [.d (ndD t), .d (ndD (.leaf n e))] ∧ NdOk t ∧ EnOk e ∧ t.ht < k ∧ t.lvs.length ≤ 30 ∧ d = .d (topD (wout t n e))
theorem girth_ok {e : En} (h : EnOk e) : PL.Ok 165 (girthM e) := by
  obtain ⟨o1, o2, o3, o4⟩ := h.o
  exact (PL.ok_plus (PL.ok_minus o2 o1) (PL.ok_minus o4 o3)).mono (by decide)
theorem grow_ok {a b : En} (ha : EnOk a) (hb : EnOk b) : PL.Ok 340 (growM a b) := (PL.ok_minus (girth_ok (hull_ok ha hb).1) (girth_ok ha)).mono (by decide)
theorem wout_okd {t : Nd} (h : NdOk t) {n : Int} {e : En} (he : EnOk e) {r : Nd} : wout t n e = some r → NdOk r := by
  induction h generalizing r with
  | @leaf m f h =>
    unfold wout
    intro z
    split at z
    · cases z
    · cases z
      exact .leaf h
  | @node x y hx hy ix iy =>
    intro z
    have z : (if meetE (hullE x.en y.en) e = true then match wout x n e with
      | none => some y
      | some r => match wout y n e with
        | none => some r
        | some q => some (balM r q)
    else some (brM x y)) = some r := z
    split at z
    · cases ex : wout x n e with
      | none =>
        rw [ex] at z
        cases z
        exact hy
      | some r1 =>
        rw [ex] at z
        cases ey : wout y n e with
        | none =>
          rw [ey] at z
          cases z
          exact ix ex
        | some q =>
          rw [ey] at z
          cases z
          exact (bal_ok (ix ex) (iy ey)).1
    · cases z
      exact .node hx hy
/-! ### whole numbers, sorted -/
def srtI (xs : List Int) : List Int := xs.mergeSort fun a b => decide (a ≤ b)
theorem srtI_perm (xs : List Int) : (srtI xs).Perm xs := List.mergeSort_perm ..
theorem srtI_up (xs : List Int) : (srtI xs).Pairwise (· ≤ ·) := by
  have h := List.pairwise_mergeSort (le := fun a b : Int => decide (a ≤ b)) (fun a b c h1 h2 => by simp only [decide_eq_true_eq] at *; omega) (fun a b => by simp only [Bool.or_eq_true, decide_eq_true_eq]; omega) xs
  exact h.imp fun h => by simpa using h
theorem srtI_eq {xs ys : List Int} (h : xs.Perm ys) : srtI xs = srtI ys := (ints_eq (srtI_perm ys) (srtI_up ys) ((srtI_perm xs).trans h) (srtI_up xs))
def nodesO : Option Nd → List Nd
  | none => []
  | some t => [t]
def RFrom (K : PySem.W.Frag) (ds : List Dat) (Z : Asn) (Po : Dat → Asn → Prop) : Prop := ∃ o : Option Nd, ds = [.d (topD o)] ∧ Z = .tt ∧ Po = fun d Y => ∃ q, d = .r q ∧ Y = lA K q ((nodesO o).map ndD)
/-- the names of the leaves that meet -/
def metL (ls : List (Int × En)) (q : En) : List Int := (ls.filter fun z => meetE z.2 q).map (·.1)
def RMet (ds : List Dat) (d : Dat) : Prop := ∃ (o : Option Nd) (q : En), ds = [.d (topD o), .d (enD q)] ∧ (∀ t, o = some t → NdOk t) ∧ (lvsO o).length ≤ 30 ∧ EnOk q ∧ d = .d (.list ((srtI (metL (lvsO o) q)).map PyData.int))
structure MetW (ls : List (Int × En)) (q : En) (fd : List Int) (st : List Nd) : Prop where
  ok : ∀ t ∈ st, NdOk t
  pm : (fd ++ metL (lvL st) q).Perm (metL ls q)
  le : (lvL st).length ≤ 30
  fl : fd.length ≤ 30
theorem met_app (a b : List (Int × En)) (q : En) : metL (a ++ b) q = metL a q ++ metL b q := by
  unfold metL
  rw [List.filter_append, List.map_append]
theorem met_le (a : List (Int × En)) (q : En) : (metL a q).length ≤ a.length := by
  unfold metL
  rw [List.length_map]
  exact List.length_filter_le _ _
theorem shaped_st {st : List Nd} (ok : ∀ t ∈ st, NdOk t) (hl : (lvL st).length ≤ 30) : SeqAt.shaped (.list (st.map ndD)) = true := by
  have all : ∀ st : List Nd, (∀ t ∈ st, NdOk t) → (lvL st).length ≤ 30 → PyData.canLayAll0 (st.map ndD) = true ∧ PyData.depthAll (st.map ndD) ≤ 62 := by
    intro st
    induction st with
    | nil => exact fun _ _ => ⟨by simp [PyData.canLayAll0], by simp [PyData.depthAll]⟩
    | cons t st ih =>
      intro ok hl
      have e : lvL (t :: st) = t.lvs ++ lvL st := rfl
      rw [e, List.length_append] at hl
      obtain ⟨a, b⟩ := ih (fun c hc => ok c (List.mem_cons_of_mem _ hc)) (by omega)
      have d1 := dep_nd (ok t List.mem_cons_self)
      refine ⟨?_, ?_⟩
      · show (PyData.canLay0 (ndD t) && PyData.canLayAll0 (st.map ndD)) = true
        rw [lay_nd, a]
        rfl
      · show max (PyData.depth (ndD t)) (PyData.depthAll (st.map ndD)) ≤ 62
        omega
  obtain ⟨a, b⟩ := all st ok hl
  unfold SeqAt.shaped
  have h1 : PyData.canLay0 (.list (st.map ndD)) = true := a
  have h2 : PyData.depth (.list (st.map ndD)) ≤ 64 := by
    show PyData.depthAll (st.map ndD) + 1 ≤ 64
    omega
  rw [h1, decide_eq_true h2]
  rfl
/-- the turns: a node that does not meet -/
theorem MetW.skip {ls : List (Int × En)} {q : En} {fd : List Int} {st : List Nd} {t : Nd} (h : MetW ls q fd (st ++ [t])) (hq : EnOk q) (m : ¬ meetE t.en q = true) : MetW ls q fd st := by
  have ot := h.ok t (List.mem_append_right _ List.mem_cons_self)
  have z : metL t.lvs q = [] := by
    unfold metL
    rw [no_meet ot hq m]
    rfl
  refine ⟨fun c hc => h.ok c (List.mem_append_left _ hc), ?_, ?_, h.fl⟩
  · have := h.pm
    rw [lv_app, lv_one, met_app, z, List.append_nil] at this
    exact this
  · have := h.le
    rw [lv_app, List.length_append] at this
    omega
theorem MetW.kids {ls : List (Int × En)} {q : En} {fd : List Int} {st : List Nd} {e : En} {k : Nat} {x y : Nd} (h : MetW ls q fd (st ++ [.node e k x y])) : MetW ls q fd (st ++ [x, y]) := by
  have l : lvL (st ++ [x, y]) = lvL (st ++ [.node e k x y]) := by
    rw [lv_app, lv_app, lv_two, lv_one]
    rfl
  have ko := kids_ok (h.ok _ (List.mem_append_right _ List.mem_cons_self))
  refine ⟨fun c hc => ?_, by rw [l]; exact h.pm, by rw [l]; exact h.le, h.fl⟩
  rcases List.mem_append.mp hc with hc | hc
  · exact h.ok c (List.mem_append_left _ hc)
  · exact ko c hc
theorem MetW.take {ls : List (Int × En)} {q : En} {fd : List Int} {st : List Nd} {n : Int} {e : En} (h : MetW ls q fd (st ++ [.leaf n e])) (hls : ls.length ≤ 30) (m : meetE e q = true) : MetW ls q (fd ++ [n]) st := by
  have z : metL (lvL [Nd.leaf n e]) q = [n] := by
    show ((List.filter (fun z => meetE z.2 q) [(n, e)]).map (·.1)) = [n]
    simp [m]
  have pm : ((fd ++ [n]) ++ metL (lvL st) q).Perm (metL ls q) := by
    refine List.Perm.trans ?_ h.pm
    rw [lv_app, met_app, z, List.append_assoc]
    exact List.Perm.append_left _ List.perm_append_comm
  refine ⟨fun c hc => h.ok c (List.mem_append_left _ hc), pm, ?_, ?_⟩
  · have := h.le
    rw [lv_app, List.length_append] at this
    omega
  · have l := pm.length_eq
    rw [List.length_append] at l
    have := met_le ls q
    omega
/-! ### questions to a dict; the square of a distance -/
def RUnused (K : PySem.W.Frag) (ds : List Dat) (Z : Asn) (d : Dat) : Prop := ∃ (q : Addr) (kvs : List (Key × PyData)) (n : Int), ds = [.r q, .i n] ∧ Z = kA K q kvs ∧ 0 ≤ n ∧ valD kvs (.inl n) = none ∧ d = .d .none
def RUsed (K : PySem.W.Frag) (ds : List Dat) (Z : Asn) (d : Dat) : Prop := ∃ (q : Addr) (kvs : List (Key × PyData)) (n : Int) (x : PyData), ds = [.r q, .i n] ∧ Z = kA K q kvs ∧ valD kvs (.inl n) = some x ∧ d = .d .none
def gapE (l h x : F) : F := mx (0, 1) (mx (minusM x h) (minusM l x))
def sqM (e : En) (x : F × F) : F := plusM (timesM (gapE e.l0 e.h0 x.1) (gapE e.l0 e.h0 x.1)) (timesM (gapE e.l1 e.h1 x.2) (gapE e.l1 e.h1 x.2))
def RSq (ds : List Dat) (d : Dat) : Prop := ∃ (e : En) (x : F × F), ds = [.d (enD e), .d (vcd x.1 x.2)] ∧ EnOk e ∧ PL.Ok 200 x.1 ∧ PL.Ok 200 x.2 ∧ d = .d (fr (sqM e x))
theorem mx_ok {n : Nat} {a b : F} (ha : PL.Ok n a) (hb : PL.Ok n b) : PL.Ok n (mx a b) := by
  rcases mx_eq a b ha.nrm.1 hb.nrm.1 with ⟨e, _⟩ | ⟨e, _⟩ <;> rw [e] <;> assumption
theorem zero_ok {n : Nat} (h : 1 ≤ n) : PL.Ok n ((0, 1) : F) := ⟨nrm_zero, Nat.lt_of_lt_of_le (by decide : (0 : Nat) < 2 ^ 1) (Nat.pow_le_pow_right (by decide) h), Nat.lt_of_lt_of_le (by decide : (1 : Nat) < 2 ^ 1) (Nat.pow_le_pow_right (by decide) h)⟩
theorem gapE_ok {l h x : F} (hl : PL.Ok 40 l) (hh : PL.Ok 40 h) (hx : PL.Ok 200 x) : PL.Ok 241 (gapE l h x) := mx_ok (zero_ok (by decide)) (mx_ok ((PL.ok_minus hx hh).mono (by decide)) ((PL.ok_minus hl hx).mono (by decide)))
/-! ### a function that is handed on -/
def RmM (μ : En → Option F) (dm dr : Dat) : Prop := ∃ e, EnOk e ∧ dm = .d (enD e) ∧ dr = .d (worthD (μ e))
def RLst (d1 : Dat) (Rm : Dat → Dat → Prop) (d : Dat) : Prop := ∃ (o : Option Nd) (μ : En → Option F) (b : Option (Int × F)), d1 = .d (topD o) ∧ (∀ t, o = some t → NdOk t) ∧ (lvsO o).length ≤ 30 ∧ Mono μ ∧ (∀ dm dr, RmM μ dm dr → Rm dm dr) ∧ Least (lvsO o) μ b ∧ d = .d (bestD b)
structure WayL (ls : List (Int × En)) (μ : En → Option F) (st : List Nd) (b : Option (Int × F)) : Prop where
  w : Way ls μ st b
  le : (lvL st).length ≤ 30
theorem body_G {K : PySem.W.Frag} {ts : TS} {N : List Str} {Q : VK} {G H : Hp} {v1 : V} {f : Addr} {d1 d : Dat} (hb : ∀ I : Asn, (∀ G' H', I.ok G' H' → Stp NoA G H G' H') → S K ts (some d1 :: some (.r f) :: List.replicate (N.length - 2) none) I (.rt d I)) (gh : PL.Same G H) (dv1 : Dv K G v1 d1) (fin : ∀ v G2 H2, Stp NoA G H G2 H2 → Dv K G2 v d → Q v H2) :
    ts { nx := fun _ H' => Q .non H', rt := Q } (L2.start N [v1, .ref f]) H :=
  hb (Asn.since NoA G H) (fun _ _ z => z) G H _ _ gh (env_start (vs := [v1, .ref f]) (ds := [d1, .r f]) _ ⟨dv1, rfl, trivial⟩) (Stp.refl gh) fun v G2 H2 _ _ j2 dv => fin v G2 H2 j2 dv
/-! ### the square of a distance is no greater for a greater box -/
theorem vl_gap {l h x : F} (hl : Nrm l) (hh : Nrm h) (hx : Nrm x) : Nrm (gapE l h x) ∧ 0 ≤ vl (gapE l h x) ∧ vl x - vl h ≤ vl (gapE l h x) ∧ vl l - vl x ≤ vl (gapE l h x) ∧ (vl (gapE l h x) = 0 ∨ vl (gapE l h x) = vl x - vl h ∨ vl (gapE l h x) = vl l - vl x) := by
  have n1 := minus_nrm hx hh
  have n2 := minus_nrm hl hx
  have v1 := vl_minus hx hh
  have v2 := vl_minus hl hx
  unfold gapE
  rcases mx_eq (minusM x h) (minusM l x) n1.1 n2.1 with ⟨e, l1⟩ | ⟨e, l1⟩
  · rw [e]
    rcases mx_eq (0, 1) (minusM x h) (by decide) n1.1 with ⟨e2, l2⟩ | ⟨e2, l2⟩
    · rw [e2]
      rw [vl_zero] at *
      exact ⟨nrm_zero, Rat.le_refl, by grind, by grind, .inl rfl⟩
    · rw [e2]
      rw [vl_zero] at l2
      exact ⟨n1, l2, by grind, by grind, .inr (.inl v1)⟩
  · rw [e]
    rcases mx_eq (0, 1) (minusM l x) (by decide) n2.1 with ⟨e2, l2⟩ | ⟨e2, l2⟩
    · rw [e2]
      rw [vl_zero] at *
      exact ⟨nrm_zero, Rat.le_refl, by grind, by grind, .inl rfl⟩
    · rw [e2]
      rw [vl_zero] at l2
      exact ⟨n2, l2, by grind, by grind, .inr (.inr v2)⟩
theorem gap_le {l h l' h' x : F} (hl : Nrm l) (hh : Nrm h) (hl' : Nrm l') (hh' : Nrm h') (hx : Nrm x) (i1 : vl l' ≤ vl l) (i2 : vl h ≤ vl h') : vl (gapE l' h' x) ≤ vl (gapE l h x) := by
  obtain ⟨_, a1, a2, a3, _⟩ := vl_gap hl hh hx
  obtain ⟨_, b1, b2, b3, b4⟩ := vl_gap hl' hh' hx
  rcases b4 with e | e | e <;> grind
theorem sq_le {a b : Rat} (h0 : 0 ≤ a) (h : a ≤ b) : a * a ≤ b * b := by
  have p := Rat.mul_nonneg (show 0 ≤ b - a by grind) (show 0 ≤ b + a by grind)
  grind
theorem sq_mono {x : F × F} (h1 : PL.Ok 200 x.1) (h2 : PL.Ok 200 x.2) : Mono (fun e => some (sqM e x)) := by
  refine ⟨fun a c _ _ _ h => (by cases h), fun a c v u ha hc i hv hu => ?_, fun a u ha hu => ?_⟩
  · cases hv
    cases hu
    obtain ⟨n0, p0, _⟩ := vl_gap ha.l0.nrm ha.h0.nrm h1.nrm
    obtain ⟨n1, p1, _⟩ := vl_gap ha.l1.nrm ha.h1.nrm h2.nrm
    obtain ⟨m0, q0, _⟩ := vl_gap hc.l0.nrm hc.h0.nrm h1.nrm
    obtain ⟨m1, q1, _⟩ := vl_gap hc.l1.nrm hc.h1.nrm h2.nrm
    have g0 := gap_le ha.l0.nrm ha.h0.nrm hc.l0.nrm hc.h0.nrm h1.nrm i.l0 i.h0
    have g1 := gap_le ha.l1.nrm ha.h1.nrm hc.l1.nrm hc.h1.nrm h2.nrm i.l1 i.h1
    unfold sqM
    rw [vl_plus (times_nrm m0 m0) (times_nrm m1 m1), vl_plus (times_nrm n0 n0) (times_nrm n1 n1), vl_times m0 m0, vl_times m1 m1, vl_times n0 n0, vl_times n1 n1]
    have s0 := sq_le q0 g0
    have s1 := sq_le q1 g1
    grind
  · cases hu
    obtain ⟨o1, o2, o3, o4⟩ := ha.o
    have g0 := gapE_ok o1 o2 h1
    have g1 := gapE_ok o3 o4 h2
    exact (PL.ok_plus (PL.ok_times g0 g0) (PL.ok_times g1 g1)).mono (by decide)
theorem Least.of_mem {ls ls' : List (Int × En)} {μ : En → Option F} {b : Option (Int × F)} (h : Least ls μ b) (hm : ∀ z, z ∈ ls' ↔ z ∈ ls) : Least ls' μ b :=
  ⟨fun c hc => let ⟨e, m, k⟩ := h.mem c hc; ⟨e, (hm _).mpr m, k⟩, fun n e w m k => h.le n e w ((hm _).mp m) k⟩
/-! ### objects: what they hold -/
abbrev Tb := List (Int × Bx)
def bxsD (tb : Tb) : List (Key × PyData) := tb.map fun z => (.inl z.1, bxd z.2)
structure Bg (b : Bx) : Prop where
  bn : BN 1000 b
  sz : b.sized = true
theorem Bg.en {b : Bx} (h : Bg b) : EnOk (ofB b) := ofB_ok h.bn (Nat.le_refl _) h.sz
theorem Bg.ok {b : Bx} (h : Bg b) : PL.Ok 4000 b.p0 ∧ PL.Ok 4000 b.p1 ∧ PL.Ok 4000 b.s0 ∧ PL.Ok 4000 b.s1 :=
  ⟨(sm_ok h.bn.p0 (by decide) (by decide) (by decide)).mono (by decide), (sm_ok h.bn.p1 (by decide) (by decide) (by decide)).mono (by decide), (sm_ok h.bn.s0 (by decide) (by decide) (by decide)).mono (by decide), (sm_ok h.bn.s1 (by decide) (by decide) (by decide)).mono (by decide)⟩
def delT (tb : Tb) (n : Int) : Tb := tb.filter fun z => decide (z.1 ≠ n)
abbrev nms (tb : Tb) : List Int := tb.map (·.1)
/-- what a table must be -/
structure TbOk (tb : Tb) : Prop where
  nd : (nms tb).Nodup
  bx : ∀ z ∈ tb, Bg z.2
  le : tb.length ≤ 13
theorem del_sub (tb : Tb) (n : Int) : (delT tb n).Sublist tb := List.filter_sublist
theorem TbOk.del {tb : Tb} (h : TbOk tb) (n : Int) : TbOk (delT tb n) := ⟨h.nd.sublist ((del_sub tb n).map _), fun z hz => h.bx z ((del_sub tb n).subset hz), Nat.le_trans (del_sub tb n).length_le h.le⟩
theorem TbOk.put {tb : Tb} (h : TbOk tb) {n : Int} {b : Bx} (hn : n ∉ nms tb) (hb : Bg b) (hl : tb.length < 13) : TbOk (tb ++ [(n, b)]) := by
  refine ⟨?_, fun z hz => ?_, by rw [List.length_append]; exact hl⟩
  · unfold nms
    rw [List.map_append, List.nodup_append]
    refine ⟨h.nd, by simp, fun a ha c hc e => ?_⟩
    rw [e, List.mem_singleton.mp hc] at ha
    exact hn ha
  · rcases List.mem_append.mp hz with hz | hz
    · exact h.bx z hz
    · rw [List.mem_singleton.mp hz]
      exact hb
theorem val_bx : ∀ {tb : Tb} {n : Int} {b : Bx}, (nms tb).Nodup → (n, b) ∈ tb → valD (bxsD tb) (.inl n) = some (bxd b)
  | [], _, _, _, h => by cases h
  | z :: tb, n, b, nd, h => by
    have nd : z.1 ∉ nms tb ∧ (nms tb).Nodup := List.nodup_cons.mp nd
    unfold valD bxsD
    by_cases c : z.1 = n
    · have ez : z = (n, b) := (List.mem_cons.mp h).elim (fun e => e.symm) fun h => absurd (List.mem_map.mpr ⟨_, h, c.symm⟩) nd.1
      rw [List.map_cons, List.find?_cons_of_pos (by simpa using c), ez]
      rfl
    · rw [List.map_cons, List.find?_cons_of_neg (by simpa using c)]
      exact val_bx nd.2 ((List.mem_cons.mp h).elim (fun e => absurd (by rw [← e]) c) id)
theorem val_no : ∀ {tb : Tb} {n : Int}, n ∉ nms tb → valD (bxsD tb) (.inl n) = none
  | [], _, _ => rfl
  | z :: tb, n, h => by
    have h1 : z.1 ≠ n := fun e => h (by rw [← e]; exact List.mem_cons_self)
    have h2 : n ∉ nms tb := fun m => h (List.mem_cons_of_mem _ m)
    unfold valD bxsD
    rw [List.map_cons, List.find?_cons_of_neg (by simpa using h1)]
    exact val_no h2
theorem has_bx {tb : Tb} {n : Int} (h : n ∈ nms tb) : ∃ b, (n, b) ∈ tb := by
  obtain ⟨z, hz, rfl⟩ := List.mem_map.mp h
  exact ⟨z.2, hz⟩
/-- a dict with a new key -/
theorem put_new {kvs : List (Key × PyData)} {n : Int} {x : PyData} (h : (.inl n : Key) ∉ kvs.map (·.1)) : putD kvs (.inl n) x = kvs ++ [(.inl n, x)] := by
  have e : (kvs.any fun kv => decide (kv.1 = .inl n)) = false := by
    rw [List.any_eq_false]
    intro kv hk c
    exact h (List.mem_map.mpr ⟨kv, hk, of_decide_eq_true c⟩)
  unfold putD
  rw [e, if_neg Bool.false_ne_true]
theorem keys_of {α : Type} {xs : List (Int × α)} {f : Int × α → PyData} {n : Int} (h : n ∉ xs.map (·.1)) : (.inl n : Key) ∉ (xs.map fun z => ((.inl z.1 : Key), f z)).map (·.1) := fun m => by
  rw [List.map_map] at m
  obtain ⟨z, hz, e⟩ := List.mem_map.mp m
  have e : (.inl z.1 : Key) = .inl n := e
  injection e with e
  exact h (List.mem_map.mpr ⟨z, hz, e⟩)
theorem drop_of {α : Type} {f : Int × α → PyData} {n : Int} : ∀ xs : List (Int × α), dropD (xs.map fun z => ((.inl z.1 : Key), f z)) (.inl n) = (xs.filter fun z => decide (z.1 ≠ n)).map fun z => ((.inl z.1 : Key), f z)
  | [] => rfl
  | z :: xs => by
    have ih := drop_of (f := f) (n := n) xs
    unfold dropD at ih ⊢
    by_cases c : z.1 = n
    · rw [List.map_cons, List.filter_cons_of_neg (by simpa using c), List.filter_cons_of_neg (by simpa using c)]
      exact ih
    · rw [List.map_cons, List.filter_cons_of_pos (by simpa using c), List.filter_cons_of_pos (by simpa using c), List.map_cons, ih]
/-! ### what the methods promise; Is q tb Z: the object at q holds the table tb, told by Z -/
abbrev IsP := Addr → Tb → Asn → Prop
def RInitO (K : PySem.W.Frag) (C : Addr) (Is : IsP) (ds : List Dat) (Z : Asn) (Po : Dat → Asn → Prop) : Prop := ∃ a, ds = [.r a] ∧ Z = cA [insC K C a []] ∧ Po = fun d Y => d = .d .none ∧ Is a [] Y
def RPutO (Is : IsP) (ds : List Dat) (Z : Asn) (Po : Dat → Asn → Prop) : Prop := ∃ (q : Addr) (n : Int) (b : Bx) (tb : Tb), ds = [.r q, .i n, .d (bxd b)] ∧ Is q tb Z ∧ n ∉ nms tb ∧ Bg b ∧ tb.length < 13 ∧ Po = fun d Y => d = .d .none ∧ Is q (tb ++ [(n, b)]) Y
def RAdd (Is : IsP) (ds : List Dat) (Z : Asn) (Po : Dat → Asn → Prop) : Prop := ∃ (q : Addr) (n : Int) (b : Bx) (tb : Tb), ds = [.r q, .i n, .d (bxd b)] ∧ Is q tb Z ∧ 0 ≤ n ∧ n ∉ nms tb ∧ Bg b ∧ tb.length < 13 ∧ Po = fun d Y => d = .d .none ∧ Is q (tb ++ [(n, b)]) Y
def RMove (Is : IsP) (ds : List Dat) (Z : Asn) (Po : Dat → Asn → Prop) : Prop := ∃ (q : Addr) (n : Int) (b : Bx) (tb : Tb), ds = [.r q, .i n, .d (bxd b)] ∧ Is q tb Z ∧ n ∈ nms tb ∧ Bg b ∧ Po = fun d Y => d = .d .none ∧ Is q (delT tb n ++ [(n, b)]) Y
def RTake (Is : IsP) (ds : List Dat) (Z : Asn) (Po : Dat → Asn → Prop) : Prop := ∃ (q : Addr) (n : Int) (tb : Tb), ds = [.r q, .i n] ∧ Is q tb Z ∧ n ∈ nms tb ∧ Po = fun d Y => d = .d .none ∧ Is q (delT tb n) Y
def RNames (Is : IsP) (ds : List Dat) (Z : Asn) (d : Dat) : Prop := ∃ (q : Addr) (tb : Tb), ds = [.r q] ∧ Is q tb Z ∧ d = .t ((srtI (nms tb)).map PyData.int)
def RBoxO (Is : IsP) (ds : List Dat) (Z : Asn) (d : Dat) : Prop := ∃ (q : Addr) (n : Int) (b : Bx) (tb : Tb), ds = [.r q, .i n] ∧ Is q tb Z ∧ (n, b) ∈ tb ∧ d = .d (bxd b)
abbrev enT (tb : Tb) : List (Int × En) := tb.map fun z => (z.1, ofB z.2)
def RNear (Is : IsP) (ds : List Dat) (Z : Asn) (d : Dat) : Prop := ∃ (q : Addr) (b : Bx) (tb : Tb), ds = [.r q, .d (bxd b)] ∧ Is q tb Z ∧ Bg b ∧ d = .t ((srtI (metL (enT tb) (ofB b))).map PyData.int)
theorem del_len {tb : Tb} {n : Int} (h : n ∈ nms tb) : (delT tb n).length < tb.length := by
  obtain ⟨b, hb⟩ := has_bx h
  unfold delT
  exact List.length_filter_lt_length_iff_exists.mpr ⟨_, hb, by simp⟩
theorem del_no {tb : Tb} {n : Int} : n ∉ nms (delT tb n) := fun m => by
  obtain ⟨z, hz, e⟩ := List.mem_map.mp m
  have := (List.mem_filter.mp hz).2
  simp at this
  exact this e
/-! ### a tree of boxes -/
def tCs (K : PySem.W.Frag) (C q ab : Addr) (tb : Tb) (top : Option Nd) : List Cel := [insC K C q [("_boxes", .r ab), ("_top", .d (topD top))], dicC K ab (bxsD tb)]
structure TOk (tb : Tb) (top : Option Nd) : Prop where
  t0 : TbOk tb
  ok : ∀ t, top = some t → NdOk t
  pm : (lvsO top).Perm (enT tb)
def IsT (K : PySem.W.Frag) (C : Addr) (q : Addr) (tb : Tb) (Z : Asn) : Prop := ∃ ab top, q ≠ ab ∧ TOk tb top ∧ Z = cA (tCs K C q ab tb top)
theorem TOk.len {tb : Tb} {top : Option Nd} (h : TOk tb top) : (lvsO top).length ≤ 13 := by
  have := h.pm.length_eq
  rw [List.length_map] at this
  have := h.t0.le
  omega
theorem TOk.ht {tb : Tb} {top : Option Nd} (h : TOk tb top) : htO top < 14 := by
  have l := h.len
  cases top with
  | none => decide
  | some t =>
    have := (h.ok t rfl).pos.2
    have l : t.lvs.length ≤ 13 := l
    show t.ht < 14
    omega
theorem TOk.put {tb : Tb} {top : Option Nd} (h : TOk tb top) {n : Int} {b : Bx} (hn : n ∉ nms tb) (hb : Bg b) (hl : tb.length < 13) : TOk (tb ++ [(n, b)]) (some (withO top n (ofB b))) := by
  have e : enT (tb ++ [(n, b)]) = enT tb ++ [(n, ofB b)] := List.map_append
  refine ⟨h.t0.put hn hb hl, fun t z => ?_, ?_⟩
  · cases z
    cases top with
    | none => exact .leaf hb.en
    | some u => exact (with_ok (h.ok u rfl) hb.en).1
  · show (withO top n (ofB b)).lvs.Perm _
    rw [e]
    refine List.Perm.trans ?_ (List.perm_append_comm (l₁ := [(n, ofB b)]))
    cases top with
    | none =>
      have e0 : enT tb = [] := h.pm.symm.eq_nil
      rw [e0]
      exact .refl _
    | some u => exact (with_ok (h.ok u rfl) hb.en).2.trans (h.pm.cons _)
theorem TOk.take {tb : Tb} {t : Nd} (h : TOk tb (some t)) {n : Int} {b : Bx} (hb : (n, b) ∈ tb) : TOk (delT tb n) (wout t n (ofB b)) := by
  have he := (h.t0.bx _ hb).en
  have pm : t.lvs.Perm (enT tb) := h.pm
  have nd : (t.lvs.map (·.1)).Nodup := by
    refine ((pm.map (·.1)).nodup_iff).mpr ?_
    rw [List.map_map]
    exact h.t0.nd
  obtain ⟨w1, w2⟩ := wout_ok (h.ok t rfl) he nd
  refine ⟨h.t0.del n, w1, w2.trans ((pm.filter _).trans ?_)⟩
  have key : ∀ tb : Tb, (nms tb).Nodup → (∀ z ∈ tb, z.1 = n → z = (n, b)) → (enT tb).filter (notL n (ofB b)) = enT (delT tb n) := by
    intro tb
    induction tb with
    | nil =>
      intro _ _
      rfl
    | cons z tb ih =>
      intro nd hz
      have i := ih (List.nodup_cons.mp nd).2 fun y hy => hz y (List.mem_cons_of_mem _ hy)
      unfold delT at i ⊢
      show List.filter _ ((z.1, ofB z.2) :: enT tb) = _
      by_cases c : z.1 = n
      · have ez := hz z List.mem_cons_self c
        rw [List.filter_cons_of_neg (by rw [ez]; simp [notL]), List.filter_cons_of_neg (by simpa using c)]
        exact i
      · rw [List.filter_cons_of_pos (by simp only [notL, decide_eq_false (show ¬ ((z.1, ofB z.2) = (n, ofB b)) from fun e => c (Prod.mk.inj e).1)]; rfl), List.filter_cons_of_pos (by simpa using c)]
        show _ = (z.1, ofB z.2) :: enT _
        rw [← i]
  have a1 : ∀ {l : Tb} {x y : Int × Bx}, (nms l).Nodup → x ∈ l → y ∈ l → x.1 = y.1 → x = y := by
    intro l
    induction l with
    | nil => exact fun _ h => by cases h
    | cons w l ih =>
      intro x y nd hx hy e
      obtain ⟨n1, n2⟩ := List.nodup_cons.mp nd
      rcases List.mem_cons.mp hx with hx | hx <;> rcases List.mem_cons.mp hy with hy | hy
      · rw [hx, hy]
      · exact absurd (List.mem_map.mpr ⟨y, hy, by rw [← e, hx]⟩) n1
      · exact absurd (List.mem_map.mpr ⟨x, hx, by rw [e, hy]⟩) n1
      · exact ih n2 hx hy e
  rw [key tb h.t0.nd fun z hz e => a1 h.t0.nd hz hb e]
theorem bx_keys (tb : Tb) : (bxsD tb).map (·.1) = (nms tb).map Sum.inl := by
  unfold bxsD nms
  rw [List.map_map, List.map_map]
  rfl
theorem met_pm {a b : List (Int × En)} (h : a.Perm b) (q : En) : (metL a q).Perm (metL b q) := (h.filter _).map _
theorem tbok_nil : TbOk [] := ⟨.nil, fun z hz => (by cases hz), by decide⟩
theorem tok_nil : TOk [] none := ⟨tbok_nil, fun t z => (by cases z), .refl _⟩
section
variable {K : PySem.W.Frag} {C q ab : Addr} {tb : Tb} {top : Option Nd} {J : Asn}
theorem t_apart (h1 : ¬ J.foot q) (h2 : ¬ J.foot ab) : Apart (cA (tCs K C q ab tb top)) J := fun x ⟨c, hc, e⟩ fj => by
  rcases List.mem_cons.mp hc with rfl | hc
  · have e : x = q := e
    rw [e] at fj
    exact h1 fj
  · rw [List.mem_singleton.mp hc] at e
    have e : x = ab := e
    rw [e] at fj
    exact h2 fj
theorem t_ins : insC K C q [("_boxes", .r ab), ("_top", .d (topD top))] ∈ tCs K C q ab tb top := List.mem_cons_self
theorem t_dic : dicC K ab (bxsD tb) ∈ tCs K C q ab tb top := List.mem_cons_of_mem _ List.mem_cons_self
theorem t_foot (ap : Apart (cA (tCs K C q ab tb top)) J) : ¬ J.foot q ∧ ¬ J.foot ab := ⟨ap q ⟨_, t_ins, rfl⟩, ap ab ⟨_, t_dic, rfl⟩⟩
theorem k_keys {G H : Hp} (h : (kA K ab (bxsD tb)).ok G H) : ∃ kvs, H ab = some (.dK kvs) ∧ kvs.map (·.1) = (nms tb).map Sum.inl := by
  obtain ⟨g, vs, h1, h2⟩ := h
  exact ⟨vs, h1, h2.1.trans (bx_keys tb)⟩
end
theorem put_bx {tb : Tb} {n : Int} {b : Bx} (h : n ∉ nms tb) : putD (bxsD tb) (.inl n) (bxd b) = bxsD (tb ++ [(n, b)]) := by
  unfold bxsD
  rw [put_new (keys_of (f := fun z => bxd z.2) h), List.map_append]
  rfl
theorem drop_bx (tb : Tb) (n : Int) : dropD (bxsD tb) (.inl n) = bxsD (delT tb n) := drop_of (f := fun z => bxd z.2) tb
def RHit (Is : IsP) (ds : List Dat) (Z : Asn) (d : Dat) : Prop := ∃ (q : Addr) (o w : F × F) (tb : Tb) (b : Option (Int × F)), ds = [.r q, .d (vcd o.1 o.2), .d (vcd w.1 w.2)] ∧ Is q tb Z ∧ RyOk o w ∧ Least (enT tb) (rayT o w) b ∧ d = .d (bestD b)
def RClose (Is : IsP) (ds : List Dat) (Z : Asn) (d : Dat) : Prop := ∃ (q : Addr) (x : F × F) (tb : Tb) (b : Option (Int × F)), ds = [.r q, .d (vcd x.1 x.2)] ∧ Is q tb Z ∧ PL.Ok 200 x.1 ∧ PL.Ok 200 x.2 ∧ Least (enT tb) (fun e => some (sqM e x)) b ∧ d = .d (bestD b)
/-! ### the broad phase -/
abbrev Pt := Int × Addr × List Int
def keyD (ks : List Int) : List (Key × PyData) := ks.map fun k => (.inl k, .bool true)
def ensD (tb : Tb) : List (Key × PyData) := tb.map fun z => (.inl z.1, enD (ofB z.2))
abbrev ptA (e : Pt) : Int × Addr := (e.1, e.2.1)
def bCs (K : PySem.W.Frag) (C q ab ae ap : Addr) (tb : Tb) (pt : List Pt) : List Cel := [insC K C q [("boxes", .r ab), ("ends", .r ae), ("partners", .r ap)], dicC K ab (bxsD tb), dicC K ae (ensD tb), refC ap (pt.map ptA)] ++ pt.map fun e => dicC K e.2.1 (keyD e.2.2)
def boxE (tb : Tb) (i : Int) : En := match tb.find? fun z => decide (z.1 = i) with
  | some z => ofB z.2
  | none => ⟨(0, 1), (0, 1), (0, 1), (0, 1)⟩
def metN (tb : Tb) (i : Int) : List Int := metL (enT (delT tb i)) (boxE tb i)
structure BOk (tb : Tb) (pt : List Pt) (q ab ae ap : Addr) : Prop where
  t0 : TbOk tb
  nm : pt.map (·.1) = nms tb
  ad : ([q, ab, ae, ap] ++ pt.map (·.2.1)).Nodup
  pm : ∀ e ∈ pt, e.2.2.Perm (metN tb e.1)
def IsB (K : PySem.W.Frag) (C : Addr) (q : Addr) (tb : Tb) (Z : Asn) : Prop := ∃ ab ae ap pt, BOk tb pt q ab ae ap ∧ Z = cA (bCs K C q ab ae ap tb pt)
theorem meet_comm (a b : En) : meetE a b = meetE b a := by
  unfold meetE
  rw [Bool.and_comm (le0 (cmpM b.l0 a.h0) 0), Bool.and_comm (le0 (cmpM b.l1 a.h1) 0)]
theorem find_bx : ∀ {tb : Tb} {n : Int} {b : Bx}, (nms tb).Nodup → (n, b) ∈ tb → tb.find? (fun z => decide (z.1 = n)) = some (n, b)
  | [], _, _, _, h => by cases h
  | z :: tb, n, b, nd, h => by
    obtain ⟨n1, n2⟩ := List.nodup_cons.mp nd
    by_cases c : z.1 = n
    · have ez : z = (n, b) := (List.mem_cons.mp h).elim (fun e => e.symm) fun h => absurd (List.mem_map.mpr ⟨_, h, c.symm⟩) n1
      rw [List.find?_cons_of_pos (by simpa using c), ez]
    · rw [List.find?_cons_of_neg (by simpa using c)]
      exact find_bx n2 ((List.mem_cons.mp h).elim (fun e => absurd (by rw [← e]) c) id)
theorem boxE_of {tb : Tb} {n : Int} {b : Bx} (nd : (nms tb).Nodup) (h : (n, b) ∈ tb) : boxE tb n = ofB b := by
  unfold boxE
  rw [find_bx nd h]
theorem del_app (tb : Tb) (n : Int) (z : Int × Bx) : delT (tb ++ [z]) n = delT tb n ++ (if z.1 = n then [] else [z]) := by
  unfold delT
  rw [List.filter_append]
  congr 1
  by_cases c : z.1 = n
  · rw [if_pos c, List.filter_cons_of_neg (by simpa using c)]
    rfl
  · rw [if_neg c, List.filter_cons_of_pos (by simpa using c)]
    rfl
theorem del_self {tb : Tb} {n : Int} (h : n ∉ nms tb) : delT tb n = tb := List.filter_eq_self.mpr fun z hz => by
  rw [decide_eq_true_eq]
  exact fun e => h (List.mem_map.mpr ⟨z, hz, e⟩)
theorem del_comm (tb : Tb) (n m : Int) : delT (delT tb n) m = delT (delT tb m) n := by
  unfold delT
  rw [List.filter_filter, List.filter_filter]
  congr 1
  funext z
  rw [Bool.and_comm]
theorem metN_put_old {tb : Tb} {n i : Int} {b : Bx} (h : TbOk tb) (hn : n ∉ nms tb) (hi : i ∈ nms tb) (hb : Bg b) (hl : tb.length < 13) : metN (tb ++ [(n, b)]) i = metN tb i ++ (if meetE (ofB b) (boxE tb i) = true then [n] else []) := by
  obtain ⟨bi, hbi⟩ := has_bx hi
  have ne : ¬ n = i := fun e => hn (e ▸ hi)
  have e1 : boxE (tb ++ [(n, b)]) i = boxE tb i := by rw [boxE_of (h.put hn hb hl).nd (List.mem_append_left _ hbi), boxE_of h.nd hbi]
  unfold metN
  rw [e1, del_app, if_neg ne]
  show metL (List.map _ _) _ = _
  rw [List.map_append, met_app]
  congr 1
  show (List.filter (fun z => meetE z.2 (boxE tb i)) [(n, ofB b)]).map (·.1) = _
  by_cases c : meetE (ofB b) (boxE tb i) = true
  · rw [if_pos c]
    simp [c]
  · rw [if_neg c]
    simp [Bool.eq_false_iff.mpr c]
theorem metN_put_new {tb : Tb} {n : Int} {b : Bx} (h : TbOk tb) (hn : n ∉ nms tb) (hb : Bg b) (hl : tb.length < 13) : metN (tb ++ [(n, b)]) n = metL (enT tb) (ofB b) := by
  unfold metN
  rw [boxE_of (h.put hn hb hl).nd (List.mem_append_right _ List.mem_cons_self), del_app, if_pos rfl, List.append_nil, del_self hn]
theorem met_one (n : Int) (e q : En) : metL [(n, e)] q = if meetE e q = true then [n] else [] := by
  unfold metL
  by_cases c : meetE e q = true
  · rw [if_pos c]
    simp [c]
  · rw [if_neg c]
    simp [Bool.eq_false_iff.mpr c]
theorem met_del (n : Int) (q : En) : ∀ l : Tb, metL (enT (delT l n)) q = (metL (enT l) q).filter fun m => decide (m ≠ n)
  | [] => rfl
  | z :: l => by
    have ih := met_del n q l
    have e1 : metL (enT (z :: l)) q = (if meetE (ofB z.2) q = true then [z.1] else []) ++ metL (enT l) q := by
      show metL ([(z.1, ofB z.2)] ++ enT l) q = _
      rw [met_app, met_one]
    rw [e1, List.filter_append, ← ih]
    by_cases c : z.1 = n
    · have e2 : delT (z :: l) n = delT l n := List.filter_cons_of_neg (by simpa using c)
      rw [e2]
      split
      · rw [List.filter_cons_of_neg (by simpa using c)]
        rfl
      · rfl
    · have e2 : delT (z :: l) n = z :: delT l n := List.filter_cons_of_pos (by simpa using c)
      rw [e2]
      show metL ([(z.1, ofB z.2)] ++ enT (delT l n)) q = _
      rw [met_app, met_one]
      split
      · rw [List.filter_cons_of_pos (by simpa using c)]
        rfl
      · rfl
theorem metN_del {tb : Tb} {n i : Int} (h : TbOk tb) (hi : i ∈ nms tb) (ne : i ≠ n) : metN (delT tb n) i = (metN tb i).filter fun m => decide (m ≠ n) := by
  obtain ⟨bi, hbi⟩ := has_bx hi
  have m2 : (i, bi) ∈ delT tb n := List.mem_filter.mpr ⟨hbi, by simpa using ne⟩
  unfold metN
  rw [boxE_of (h.del n).nd m2, boxE_of h.nd hbi, del_comm]
  exact met_del n _ _
/-- the partners of m changed -/
def upd1 (m : Int) (f : List Int → List Int) (pt : List Pt) : List Pt := pt.map fun e => if e.1 = m then (e.1, e.2.1, f e.2.2) else e
theorem upd1_A (m : Int) (f : List Int → List Int) (pt : List Pt) : (upd1 m f pt).map ptA = pt.map ptA := by
  unfold upd1
  rw [List.map_map]
  congr 1
  funext e
  show ptA (if e.1 = m then _ else _) = _
  split <;> rfl
def updF (F : List Int) (f : List Int → List Int) (pt : List Pt) : List Pt := F.foldl (fun pt m => upd1 m f pt) pt
theorem updF_A (f : List Int → List Int) : ∀ (F : List Int) (pt : List Pt), (updF F f pt).map ptA = pt.map ptA
  | [], _ => rfl
  | m :: F, pt => (updF_A f F (upd1 m f pt)).trans (upd1_A m f pt)
theorem updF_snoc (F : List Int) (m : Int) (f : List Int → List Int) (pt : List Pt) : updF (F ++ [m]) f pt = upd1 m f (updF F f pt) := List.foldl_append ..
theorem updF_eq (f : List Int → List Int) : ∀ {F : List Int}, F.Nodup → ∀ pt : List Pt, updF F f pt = pt.map fun e => if e.1 ∈ F then (e.1, e.2.1, f e.2.2) else e
  | [], _, pt => by
    show pt = _
    simp
  | m :: F, nd, pt => by
    obtain ⟨n1, n2⟩ := List.nodup_cons.mp nd
    show updF F f (upd1 m f pt) = _
    rw [updF_eq f n2]
    unfold upd1
    rw [List.map_map]
    congr 1
    funext e
    obtain ⟨e1, e2, e3⟩ := e
    show (fun e : Pt => if e.1 ∈ F then (e.1, e.2.1, f e.2.2) else e) (if e1 = m then (e1, e2, f e3) else (e1, e2, e3)) = if e1 ∈ m :: F then (e1, e2, f e3) else (e1, e2, e3)
    by_cases c : e1 = m
    · subst c
      rw [if_pos rfl, if_pos List.mem_cons_self]
      show (if e1 ∈ F then _ else (e1, e2, f e3)) = _
      rw [if_neg n1]
    · rw [if_neg c]
      show (if e1 ∈ F then (e1, e2, f e3) else (e1, e2, e3)) = _
      by_cases d : e1 ∈ F
      · rw [if_pos d, if_pos (List.mem_cons_of_mem _ d)]
      · rw [if_neg d, if_neg (fun z => (List.mem_cons.mp z).elim c d)]
theorem ptA_1 {pt pt' : List Pt} (h : pt'.map ptA = pt.map ptA) : pt'.map (·.1) = pt.map (·.1) ∧ pt'.map (·.2.1) = pt.map (·.2.1) := by
  have h1 := congrArg (List.map Prod.fst) h
  have h2 := congrArg (List.map Prod.snd) h
  rw [List.map_map, List.map_map] at h1 h2
  exact ⟨h1, h2⟩
theorem inj_1 {α β : Type} {f : α → β} : ∀ {l : List α} {x y : α}, (l.map f).Nodup → x ∈ l → y ∈ l → f x = f y → x = y
  | [], _, _, _, h, _, _ => by cases h
  | w :: l, x, y, nd, hx, hy, e => by
    obtain ⟨n1, n2⟩ := List.nodup_cons.mp nd
    rcases List.mem_cons.mp hx with hx | hx <;> rcases List.mem_cons.mp hy with hy | hy
    · rw [hx, hy]
    · exact absurd (List.mem_map.mpr ⟨y, hy, by rw [← e, hx]⟩) n1
    · exact absurd (List.mem_map.mpr ⟨x, hx, by rw [e, hy]⟩) n1
    · exact inj_1 n2 hx hy e
section
variable {K : PySem.W.Frag} {C q ab ae ap : Addr} {tb : Tb} {pt : List Pt} {J : Asn}
theorem b_ins : insC K C q [("boxes", .r ab), ("ends", .r ae), ("partners", .r ap)] ∈ bCs K C q ab ae ap tb pt := List.mem_cons_self
theorem b_bx : dicC K ab (bxsD tb) ∈ bCs K C q ab ae ap tb pt := List.mem_cons_of_mem _ List.mem_cons_self
theorem b_en : dicC K ae (ensD tb) ∈ bCs K C q ab ae ap tb pt := List.mem_cons_of_mem _ (List.mem_cons_of_mem _ List.mem_cons_self)
theorem b_rf : refC ap (pt.map ptA) ∈ bCs K C q ab ae ap tb pt := List.mem_cons_of_mem _ (List.mem_cons_of_mem _ (List.mem_cons_of_mem _ List.mem_cons_self))
theorem b_pt {e : Pt} (h : e ∈ pt) : dicC K e.2.1 (keyD e.2.2) ∈ bCs K C q ab ae ap tb pt := List.mem_append_right _ (List.mem_map.mpr ⟨e, h, rfl⟩)
theorem b_cases {c : Cel} (h : c ∈ bCs K C q ab ae ap tb pt) : c = insC K C q [("boxes", .r ab), ("ends", .r ae), ("partners", .r ap)] ∨ c = dicC K ab (bxsD tb) ∨ c = dicC K ae (ensD tb) ∨ c = refC ap (pt.map ptA) ∨ ∃ e ∈ pt, c = dicC K e.2.1 (keyD e.2.2) := by
  rcases List.mem_append.mp h with h | h
  · rcases List.mem_cons.mp h with h | h
    · exact .inl h
    rcases List.mem_cons.mp h with h | h
    · exact .inr (.inl h)
    rcases List.mem_cons.mp h with h | h
    · exact .inr (.inr (.inl h))
    · exact .inr (.inr (.inr (.inl (List.mem_singleton.mp h))))
  · obtain ⟨e, he, rfl⟩ := List.mem_map.mp h
    exact .inr (.inr (.inr (.inr ⟨e, he, rfl⟩)))
structure Ad (pt : List Pt) (q ab ae ap : Addr) : Prop where
  qb : q ≠ ab
  qe : q ≠ ae
  qp : q ≠ ap
  be : ab ≠ ae
  bp : ab ≠ ap
  ep : ae ≠ ap
  pq : ∀ e ∈ pt, e.2.1 ≠ q ∧ e.2.1 ≠ ab ∧ e.2.1 ≠ ae ∧ e.2.1 ≠ ap
  pp : (pt.map (·.2.1)).Nodup
theorem ad_of (h : ([q, ab, ae, ap] ++ pt.map (·.2.1)).Nodup) : Ad pt q ab ae ap := by
  obtain ⟨h1, h2, h3⟩ := List.nodup_append.mp h
  simp only [List.nodup_cons, List.mem_cons, List.not_mem_nil, or_false, not_or] at h1
  obtain ⟨⟨a1, a2, a3⟩, ⟨a4, a5⟩, a6, _⟩ := h1
  refine ⟨a1, a2, a3, a4, a5, a6, fun e he => ?_, h2⟩
  have m : e.2.1 ∈ pt.map (·.2.1) := List.mem_map.mpr ⟨e, he, rfl⟩
  exact ⟨fun z => h3 q (by simp) _ m z.symm, fun z => h3 ab (by simp) _ m z.symm, fun z => h3 ae (by simp) _ m z.symm, fun z => h3 ap (by simp) _ m z.symm⟩
theorem b_apart (h1 : ¬ J.foot q) (h2 : ¬ J.foot ab) (h3 : ¬ J.foot ae) (h4 : ¬ J.foot ap) (h5 : ∀ e ∈ pt, ¬ J.foot e.2.1) : Apart (cA (bCs K C q ab ae ap tb pt)) J := fun x ⟨c, hc, ex⟩ fj => by
  rw [ex] at fj
  rcases b_cases hc with rfl | rfl | rfl | rfl | ⟨e, he, rfl⟩
  · exact h1 fj
  · exact h2 fj
  · exact h3 fj
  · exact h4 fj
  · exact h5 e he fj
theorem b_foot (a : Apart (cA (bCs K C q ab ae ap tb pt)) J) : ¬ J.foot q ∧ ¬ J.foot ab ∧ ¬ J.foot ae ∧ ¬ J.foot ap ∧ ∀ e ∈ pt, ¬ J.foot e.2.1 := ⟨a q ⟨_, b_ins, rfl⟩, a ab ⟨_, b_bx, rfl⟩, a ae ⟨_, b_en, rfl⟩, a ap ⟨_, b_rf, rfl⟩, fun e he => a e.2.1 ⟨_, b_pt he, rfl⟩⟩
theorem b_len {h : BOk tb pt q ab ae ap} : pt.length ≤ 13 := by
  have := congrArg List.length h.nm
  rw [List.length_map, List.length_map] at this
  have := h.t0.le
  omega
/-- one partner's dict is stored anew -/
theorem b_upd {e : Pt} {f : List Int → List Int} (ad : Ad pt q ab ae ap) (nd : (pt.map (·.1)).Nodup) (he : e ∈ pt) : ∀ c ∈ bCs K C q ab ae ap tb (upd1 e.1 f pt), c = dicC K e.2.1 (keyD (f e.2.2)) ∨ (c.a ≠ e.2.1 ∧ c ∈ bCs K C q ab ae ap tb pt) := fun c hc => by
  obtain ⟨p1, p2, p3, p4⟩ := ad.pq e he
  rcases b_cases hc with rfl | rfl | rfl | rfl | ⟨e2, he2, rfl⟩
  · exact .inr ⟨p1.symm, b_ins⟩
  · exact .inr ⟨p2.symm, b_bx⟩
  · exact .inr ⟨p3.symm, b_en⟩
  · rw [upd1_A]
    exact .inr ⟨p4.symm, b_rf⟩
  · obtain ⟨e3, he3, ee⟩ := List.mem_map.mp he2
    by_cases c : e3.1 = e.1
    · have e33 : e3 = e := inj_1 nd he3 he c
      rw [if_pos c] at ee
      rw [← ee, e33]
      exact .inl rfl
    · rw [if_neg c] at ee
      rw [← ee]
      exact .inr ⟨fun z => c (congrArg Prod.fst (inj_1 ad.pp he3 he z)), b_pt he3⟩
end
theorem key_put {ks : List Int} {n : Int} (h : n ∉ ks) : putD (keyD ks) (.inl n) (.bool true) = keyD (ks ++ [n]) := by
  have h2 : (.inl n : Key) ∉ (keyD ks).map (·.1) := fun m => by
    unfold keyD at m
    rw [List.map_map] at m
    obtain ⟨k, hk, e⟩ := List.mem_map.mp m
    have e : (.inl k : Key) = .inl n := e
    injection e with e
    exact h (e ▸ hk)
  rw [put_new h2]
  unfold keyD
  rw [List.map_append]
  rfl
theorem key_drop (n : Int) : ∀ ks : List Int, dropD (keyD ks) (.inl n) = keyD (ks.filter fun k => decide (k ≠ n))
  | [] => rfl
  | k :: ks => by
    have ih := key_drop n ks
    unfold dropD keyD at ih ⊢
    by_cases c : k = n
    · rw [List.map_cons, List.filter_cons_of_neg (by simpa using c), List.filter_cons_of_neg (by simpa using c)]
      exact ih
    · rw [List.map_cons, List.filter_cons_of_pos (by simpa using c), List.filter_cons_of_pos (by simpa using c), List.map_cons, ih]
theorem key_has {n : Int} : ∀ {ks : List Int}, n ∈ ks → (valD (keyD ks) (.inl n)).isSome = true
  | [], h => by cases h
  | k :: ks, h => by
    unfold valD keyD
    by_cases c : k = n
    · rw [List.map_cons, List.find?_cons_of_pos (by simpa using c)]
      rfl
    · rw [List.map_cons, List.find?_cons_of_neg (by simpa using c)]
      exact key_has ((List.mem_cons.mp h).elim (fun e => absurd e.symm c) id)
theorem key_keys (ks : List Int) : (keyD ks).map (·.1) = ks.map Sum.inl := by
  unfold keyD
  rw [List.map_map]
  rfl
def RMeeting (Is : IsP) (ds : List Dat) (Z : Asn) (d : Dat) : Prop := ∃ (q : Addr) (e : En) (tb : Tb), ds = [.r q, .d (enD e)] ∧ Is q tb Z ∧ EnOk e ∧ d = .d (.list ((srtI (metL (enT tb) e)).map PyData.int))
abbrev iiD (z : Int × Int) : PyData := .tuple [.int z.1, .int z.2]
def prsF (tb : Tb) : List (Int × Int) := (srtI (nms tb)).flatMap fun i => ((srtI (metN tb i)).filter fun m => decide (i < m)).map fun m => (i, m)
def RPrs (Is : IsP) (ds : List Dat) (Z : Asn) (d : Dat) : Prop := ∃ (q : Addr) (tb : Tb), ds = [.r q] ∧ Is q tb Z ∧ d = .t ((prsF tb).map iiD)
theorem bok_nil {q ab ae ap : Addr} (h : [q, ab, ae, ap].Nodup) : BOk [] [] q ab ae ap := ⟨tbok_nil, rfl, by simpa using h, fun e z => by cases z⟩
theorem BOk.nd {tb : Tb} {pt : List Pt} {q ab ae ap : Addr} (h : BOk tb pt q ab ae ap) : (pt.map (·.1)).Nodup := by rw [h.nm]; exact h.t0.nd
theorem BOk.get {tb : Tb} {pt : List Pt} {q ab ae ap : Addr} (h : BOk tb pt q ab ae ap) {n : Int} (hn : n ∈ nms tb) : ∃ a ks, (n, a, ks) ∈ pt ∧ ks.Perm (metN tb n) := by
  rw [← h.nm] at hn
  obtain ⟨e, he, rfl⟩ := List.mem_map.mp hn
  exact ⟨e.2.1, e.2.2, he, h.pm e he⟩
theorem rf_nd {pt : List Pt} (h : (pt.map (·.1)).Nodup) : ((pt.map ptA).map (·.1)).Nodup := by
  rw [List.map_map]
  exact h
theorem rf_mem {pt : List Pt} {n : Int} {a : Addr} {ks : List Int} (h : (n, a, ks) ∈ pt) : (n, a) ∈ pt.map ptA := List.mem_map.mpr ⟨_, h, rfl⟩
theorem met_sub {a : List (Int × En)} {q : En} {m : Int} (h : m ∈ metL a q) : m ∈ a.map (·.1) := by
  obtain ⟨z, hz, rfl⟩ := List.mem_map.mp h
  exact List.mem_map.mpr ⟨z, (List.mem_filter.mp hz).1, rfl⟩
theorem metN_sub {tb : Tb} {n m : Int} (h : m ∈ metN tb n) : m ∈ nms tb ∧ m ≠ n := by
  have h1 := met_sub h
  rw [List.map_map] at h1
  obtain ⟨z, hz, e⟩ := List.mem_map.mp h1
  have e : z.1 = m := e
  have h2 := List.mem_filter.mp hz
  exact ⟨List.mem_map.mpr ⟨z, h2.1, e⟩, by rw [← e]; simpa using h2.2⟩
theorem metN_sym {tb : Tb} {n m : Int} (h : TbOk tb) (hn : n ∈ nms tb) (hm : m ∈ metN tb n) : n ∈ metN tb m := by
  obtain ⟨hm1, ne⟩ := metN_sub hm
  obtain ⟨bn, hbn⟩ := has_bx hn
  obtain ⟨bm, hbm⟩ := has_bx hm1
  unfold metN metL at hm ⊢
  rw [boxE_of h.nd hbn] at hm
  rw [boxE_of h.nd hbm]
  obtain ⟨z, hz, e⟩ := List.mem_map.mp hm
  obtain ⟨z1, z2⟩ := List.mem_filter.mp hz
  obtain ⟨y, hy, rfl⟩ := List.mem_map.mp z1
  have e : y.1 = m := e
  have ey : y = (m, bm) := inj_1 h.nd (List.mem_filter.mp hy).1 hbm e
  rw [ey] at z2
  have z2 : meetE (ofB bm) (ofB bn) = true := z2
  refine List.mem_map.mpr ⟨(n, ofB bn), List.mem_filter.mpr ⟨List.mem_map.mpr ⟨(n, bn), List.mem_filter.mpr ⟨hbn, by simpa using ne.symm⟩, rfl⟩, ?_⟩, rfl⟩
  rw [meet_comm]
  exact z2
theorem met_nd {tb : Tb} (h : (nms tb).Nodup) (q : En) : (metL (enT tb) q).Nodup := by
  have h1 : (metL (enT tb) q).Sublist ((enT tb).map (·.1)) := List.Sublist.map _ List.filter_sublist
  refine List.Nodup.sublist h1 ?_
  rw [List.map_map]
  exact h
theorem BOk.put {tb : Tb} {pt : List Pt} {q ab ae ap p : Addr} {n : Int} {b : Bx} {ks : List Int} (h : BOk tb pt q ab ae ap) (hn : n ∉ nms tb) (hb : Bg b) (hl : tb.length < 13) (hp : p ∉ [q, ab, ae, ap] ++ pt.map (·.2.1)) (hk : ks.Perm (metL (enT tb) (ofB b))) :
    BOk (tb ++ [(n, b)]) (updF ks (· ++ [n]) pt ++ [(n, p, ks)]) q ab ae ap := by
  have nk : ks.Nodup := (hk.nodup_iff).mpr (met_nd h.t0.nd _)
  obtain ⟨a1, a2⟩ := ptA_1 (updF_A (· ++ [n]) ks pt)
  refine ⟨h.t0.put hn hb hl, ?_, ?_, fun e he => ?_⟩
  · unfold nms
    rw [List.map_append, List.map_append, a1, h.nm]
    rfl
  · rw [List.map_append, a2, ← List.append_assoc]
    refine List.nodup_append.mpr ⟨h.ad, by simp, fun x hx y hy e => ?_⟩
    have hy : y = p := List.mem_singleton.mp hy
    rw [e, hy] at hx
    exact hp hx
  · rcases List.mem_append.mp he with he | he
    · rw [updF_eq _ nk] at he
      obtain ⟨e0, he0, rfl⟩ := List.mem_map.mp he
      have hi : e0.1 ∈ nms tb := by rw [← h.nm]; exact List.mem_map.mpr ⟨e0, he0, rfl⟩
      obtain ⟨bi, hbi⟩ := has_bx hi
      have mem : e0.1 ∈ ks ↔ meetE (ofB b) (boxE tb e0.1) = true := by
        rw [hk.mem_iff, boxE_of h.t0.nd hbi]
        unfold metL
        constructor
        · intro m
          obtain ⟨z, hz, e⟩ := List.mem_map.mp m
          obtain ⟨z1, z2⟩ := List.mem_filter.mp hz
          obtain ⟨y, hy, rfl⟩ := List.mem_map.mp z1
          have e : y.1 = e0.1 := e
          have ey : y = (e0.1, bi) := inj_1 h.t0.nd hy hbi e
          rw [ey] at z2
          rw [meet_comm]
          exact z2
        · intro m
          rw [meet_comm] at m
          exact List.mem_map.mpr ⟨(e0.1, ofB bi), List.mem_filter.mpr ⟨List.mem_map.mpr ⟨_, hbi, rfl⟩, m⟩, rfl⟩
      by_cases c : e0.1 ∈ ks
      · rw [if_pos c]
        show (e0.2.2 ++ [n]).Perm (metN (tb ++ [(n, b)]) e0.1)
        rw [metN_put_old h.t0 hn hi hb hl, if_pos (mem.mp c)]
        exact (h.pm e0 he0).append_right _
      · rw [if_neg c]
        show e0.2.2.Perm (metN (tb ++ [(n, b)]) e0.1)
        rw [metN_put_old h.t0 hn hi hb hl, if_neg (fun z => c (mem.mpr z)), List.append_nil]
        exact h.pm e0 he0
    · rw [List.mem_singleton.mp he]
      show ks.Perm (metN (tb ++ [(n, b)]) n)
      rw [metN_put_new h.t0 hn hb hl]
      exact hk
theorem BOk.take {tb : Tb} {pt : List Pt} {q ab ae ap : Addr} {n : Int} {a : Addr} {ks : List Int} (h : BOk tb pt q ab ae ap) (he : (n, a, ks) ∈ pt) :
    BOk (delT tb n) ((updF ks (fun l => l.filter fun k => decide (k ≠ n)) pt).filter fun e => decide (e.1 ≠ n)) q ab ae ap := by
  have hn : n ∈ nms tb := by rw [← h.nm]; exact List.mem_map.mpr ⟨_, he, rfl⟩
  have hk : ks.Perm (metN tb n) := h.pm _ he
  have nk : ks.Nodup := (hk.nodup_iff).mpr (met_nd (h.t0.del n).nd _)
  obtain ⟨a1, a2⟩ := ptA_1 (updF_A (fun l => l.filter fun k => decide (k ≠ n)) ks pt)
  refine ⟨h.t0.del n, ?_, ?_, fun e he2 => ?_⟩
  · have e1 : ∀ l : List Pt, (l.filter fun e => decide (e.1 ≠ n)).map (·.1) = (l.map (·.1)).filter fun m => decide (m ≠ n) := fun l => by rw [List.filter_map]; rfl
    have e2 : nms (delT tb n) = (nms tb).filter fun m => decide (m ≠ n) := by
      unfold nms delT
      rw [List.filter_map]
      rfl
    rw [e1, a1, h.nm, e2]
  · have sub : (((updF ks (fun l => l.filter fun k => decide (k ≠ n)) pt).filter fun e => decide (e.1 ≠ n)).map (·.2.1)).Sublist (pt.map (·.2.1)) := by
      rw [← a2]
      exact List.Sublist.map _ List.filter_sublist
    exact h.ad.sublist ((List.Sublist.refl _).append sub)
  · obtain ⟨h1, h2⟩ := List.mem_filter.mp he2
    rw [updF_eq _ nk] at h1
    obtain ⟨e0, he0, rfl⟩ := List.mem_map.mp h1
    have hi : e0.1 ∈ nms tb := by rw [← h.nm]; exact List.mem_map.mpr ⟨e0, he0, rfl⟩
    by_cases c : e0.1 ∈ ks
    · rw [if_pos c] at h2 ⊢
      have ne : e0.1 ≠ n := by simpa using h2
      show (e0.2.2.filter fun k => decide (k ≠ n)).Perm (metN (delT tb n) e0.1)
      rw [metN_del h.t0 hi ne]
      exact (h.pm e0 he0).filter _
    · rw [if_neg c] at h2 ⊢
      have ne : e0.1 ≠ n := by simpa using h2
      show e0.2.2.Perm (metN (delT tb n) e0.1)
      rw [metN_del h.t0 hi ne]
      have nin : n ∉ metN tb e0.1 := fun z => c (hk.mem_iff.mpr (metN_sym h.t0 hi z))
      have e1 : (metN tb e0.1).filter (fun m => decide (m ≠ n)) = metN tb e0.1 := List.filter_eq_self.mpr fun m hm => by
        rw [decide_eq_true_eq]
        exact fun e => nin (e ▸ hm)
      rw [e1]
      exact h.pm e0 he0
theorem put_en {tb : Tb} {n : Int} {b : Bx} (h : n ∉ nms tb) : putD (ensD tb) (.inl n) (enD (ofB b)) = ensD (tb ++ [(n, b)]) := by
  unfold ensD
  rw [put_new (keys_of (f := fun z => enD (ofB z.2)) h), List.map_append]
  rfl
theorem drop_en (tb : Tb) (n : Int) : dropD (ensD tb) (.inl n) = ensD (delT tb n) := drop_of (f := fun z => enD (ofB z.2)) tb
theorem val_en {tb : Tb} {n : Int} (h : n ∈ nms tb) : (valD (ensD tb) (.inl n)).isSome = true := by
  have key : ∀ l : Tb, n ∈ nms l → (valD (ensD l) (.inl n)).isSome = true := by
    intro l
    induction l with
    | nil => exact fun z => by cases z
    | cons z l ih =>
      intro hm
      unfold valD ensD
      by_cases c : z.1 = n
      · rw [List.map_cons, List.find?_cons_of_pos (by simpa using c)]
        rfl
      · rw [List.map_cons, List.find?_cons_of_neg (by simpa using c)]
        exact ih ((List.mem_cons.mp hm).elim (fun e => absurd e.symm c) id)
  exact key tb h
def bC2 (K : PySem.W.Frag) (C q ab ae ap : Addr) (t1 t2 : Tb) (pt : List Pt) : List Cel := [insC K C q [("boxes", .r ab), ("ends", .r ae), ("partners", .r ap)], dicC K ab (bxsD t1), dicC K ae (ensD t2), refC ap (pt.map ptA)] ++ pt.map fun e => dicC K e.2.1 (keyD e.2.2)
theorem b2_cases {K : PySem.W.Frag} {C q ab ae ap : Addr} {t1 t2 : Tb} {pt : List Pt} {c : Cel} (h : c ∈ bC2 K C q ab ae ap t1 t2 pt) : c = insC K C q [("boxes", .r ab), ("ends", .r ae), ("partners", .r ap)] ∨ c = dicC K ab (bxsD t1) ∨ c = dicC K ae (ensD t2) ∨ c = refC ap (pt.map ptA) ∨ ∃ e ∈ pt, c = dicC K e.2.1 (keyD e.2.2) := by
  rcases List.mem_append.mp h with h | h
  · rcases List.mem_cons.mp h with h | h
    · exact .inl h
    rcases List.mem_cons.mp h with h | h
    · exact .inr (.inl h)
    rcases List.mem_cons.mp h with h | h
    · exact .inr (.inr (.inl h))
    · exact .inr (.inr (.inr (.inl (List.mem_singleton.mp h))))
  · obtain ⟨e, he, rfl⟩ := List.mem_map.mp h
    exact .inr (.inr (.inr (.inr ⟨e, he, rfl⟩)))
section
variable {K : PySem.W.Frag} {C q ab ae ap : Addr} {t1 t2 t3 : Tb} {pt : List Pt}
theorem b2_ins : insC K C q [("boxes", .r ab), ("ends", .r ae), ("partners", .r ap)] ∈ bC2 K C q ab ae ap t1 t2 pt := List.mem_cons_self
theorem b2_bx : dicC K ab (bxsD t1) ∈ bC2 K C q ab ae ap t1 t2 pt := List.mem_cons_of_mem _ List.mem_cons_self
theorem b2_en : dicC K ae (ensD t2) ∈ bC2 K C q ab ae ap t1 t2 pt := List.mem_cons_of_mem _ (List.mem_cons_of_mem _ List.mem_cons_self)
theorem b2_rf : refC ap (pt.map ptA) ∈ bC2 K C q ab ae ap t1 t2 pt := List.mem_cons_of_mem _ (List.mem_cons_of_mem _ (List.mem_cons_of_mem _ List.mem_cons_self))
theorem b2_pt {e : Pt} (h : e ∈ pt) : dicC K e.2.1 (keyD e.2.2) ∈ bC2 K C q ab ae ap t1 t2 pt := List.mem_append_right _ (List.mem_map.mpr ⟨e, h, rfl⟩)
theorem b2_1 (ad : Ad pt q ab ae ap) : ∀ c ∈ bC2 K C q ab ae ap t3 t2 pt, c = dicC K ab (bxsD t3) ∨ (c.a ≠ ab ∧ c ∈ bC2 K C q ab ae ap t1 t2 pt) := fun c hc => by
  rcases b2_cases hc with rfl | rfl | rfl | rfl | ⟨e, he, rfl⟩
  · exact .inr ⟨ad.qb, b2_ins⟩
  · exact .inl rfl
  · exact .inr ⟨ad.be.symm, b2_en⟩
  · exact .inr ⟨ad.bp.symm, b2_rf⟩
  · exact .inr ⟨(ad.pq e he).2.1, b2_pt he⟩
theorem b2_2 (ad : Ad pt q ab ae ap) : ∀ c ∈ bC2 K C q ab ae ap t1 t3 pt, c = dicC K ae (ensD t3) ∨ (c.a ≠ ae ∧ c ∈ bC2 K C q ab ae ap t1 t2 pt) := fun c hc => by
  rcases b2_cases hc with rfl | rfl | rfl | rfl | ⟨e, he, rfl⟩
  · exact .inr ⟨ad.qe, b2_ins⟩
  · exact .inr ⟨ad.be, b2_bx⟩
  · exact .inl rfl
  · exact .inr ⟨ad.ep.symm, b2_rf⟩
  · exact .inr ⟨(ad.pq e he).2.2.1, b2_pt he⟩
end
/-! ### the drawn table -/
def setT (tb : Tb) (n : Int) (b : Bx) : Tb := if n ∈ nms tb then tb.map (fun z => if z.1 = n then (z.1, b) else z) else tb ++ [(n, b)]
theorem put_set (tb : Tb) (n : Int) (b : Bx) : putD (bxsD tb) (.inl n) (bxd b) = bxsD (setT tb n b) := by
  unfold setT
  by_cases h : n ∈ nms tb
  · rw [if_pos h]
    have e : ((bxsD tb).any fun z => decide (z.1 = .inl n)) = true := by
      obtain ⟨z, hz, ez⟩ := List.mem_map.mp h
      exact List.any_eq_true.mpr ⟨(.inl z.1, bxd z.2), List.mem_map.mpr ⟨z, hz, rfl⟩, by rw [ez]; exact decide_eq_true rfl⟩
    unfold putD
    rw [if_pos e]
    unfold bxsD
    rw [List.map_map, List.map_map]
    congr 1
    funext z
    show (if (Sum.inl z.1 : Key) = .inl n then ((Sum.inl z.1 : Key), bxd b) else (.inl z.1, bxd z.2)) = (Sum.inl (if z.1 = n then (z.1, b) else z).1, bxd (if z.1 = n then (z.1, b) else z).2)
    by_cases c : z.1 = n
    · rw [if_pos c, if_pos (by rw [c])]
    · rw [if_neg c, if_neg (fun e => c (by injection e))]
  · rw [if_neg h]
    exact put_bx h
theorem nms_set (tb : Tb) (n : Int) (b : Bx) : nms (setT tb n b) = if n ∈ nms tb then nms tb else nms tb ++ [n] := by
  unfold setT
  by_cases h : n ∈ nms tb
  · rw [if_pos h, if_pos h]
    unfold nms
    rw [List.map_map]
    congr 1
    funext z
    show (if z.1 = n then (z.1, b) else z).1 = z.1
    split <;> rfl
  · rw [if_neg h, if_neg h]
    unfold nms
    rw [List.map_append]
    rfl
theorem set_mem {tb : Tb} {n : Int} {b : Bx} {z : Int × Bx} (h : z ∈ setT tb n b) : z = (n, b) ∨ z ∈ tb := by
  unfold setT at h
  split at h
  · obtain ⟨y, hy, e⟩ := List.mem_map.mp h
    by_cases c : y.1 = n
    · rw [if_pos c] at e
      rw [← e, c]
      exact .inl rfl
    · rw [if_neg c] at e
      rw [← e]
      exact .inr hy
  · rcases List.mem_append.mp h with h | h
    · exact .inr h
    · exact .inl (List.mem_singleton.mp h)
structure TW (i : Nat) (tb : Tb) : Prop where
  nd : (nms tb).Nodup
  bx : ∀ z ∈ tb, (0 ≤ z.1 ∧ z.1 < 40) ∧ BN (10 + 6 * i) z.2 ∧ z.2.sized = true
  le : tb.length ≤ i
theorem TW.set {i : Nat} {tb : Tb} (h : TW i tb) {n : Int} {b : Bx} (h0 : 0 ≤ n) (h1 : n < 40) (hb : BN (10 + 6 * i + 6) b) (hs : b.sized = true) : TW (i + 1) (setT tb n b) := by
  have hn := nms_set tb n b
  refine ⟨?_, fun z hz => ?_, ?_⟩
  · rw [hn]
    split
    · exact h.nd
    · rename_i c
      refine List.nodup_append.mpr ⟨h.nd, by simp, fun a ha y hy e => ?_⟩
      rw [e, List.mem_singleton.mp hy] at ha
      exact c ha
  · rcases set_mem hz with rfl | hz
    · exact ⟨⟨h0, h1⟩, hb.mono (by omega), hs⟩
    · obtain ⟨a, b, c⟩ := h.bx z hz
      exact ⟨a, b.mono (by omega), c⟩
  · have e : (nms (setT tb n b)).length ≤ i + 1 := by
      have := h.le
      rw [hn]
      split
      · unfold nms; rw [List.length_map]; omega
      · rw [List.length_append]; unfold nms; rw [List.length_map]; show _ + 1 ≤ _; omega
    unfold nms at e
    rw [List.length_map] at e
    exact e
/-! ### the table, sorted by names -/
def bxO (tb : Tb) (n : Int) : Bx := match tb.find? fun z => decide (z.1 = n) with
  | some z => z.2
  | none => ⟨(0, 1), (0, 1), (0, 1), (0, 1)⟩
theorem bxO_of {tb : Tb} {n : Int} {b : Bx} (nd : (nms tb).Nodup) (h : (n, b) ∈ tb) : bxO tb n = b := by
  unfold bxO
  rw [find_bx nd h]
def tbS (tb : Tb) : Tb := (srtI (nms tb)).map fun n => (n, bxO tb n)
theorem nms_S (tb : Tb) : nms (tbS tb) = srtI (nms tb) := by
  unfold nms tbS
  rw [List.map_map]
  exact List.map_id _
theorem S_mem {tb : Tb} (nd : (nms tb).Nodup) {z : Int × Bx} (h : z ∈ tbS tb) : z ∈ tb := by
  obtain ⟨n, hn, rfl⟩ := List.mem_map.mp h
  obtain ⟨b, hb⟩ := has_bx ((srtI_perm _).mem_iff.mp hn)
  rw [bxO_of nd hb]
  exact hb
/-- the names and the boxes that the law goes on with -/
structure Wk (kv : List (Key × PyData)) (t : Tb) : Prop where
  sr : srtI (nms t) = nms t
  nd : (nms t).Nodup
  rg : ∀ z ∈ t, (0 ≤ z.1 ∧ z.1 < 40) ∧ BN 70 z.2 ∧ Bg z.2
  le : t.length ≤ 10
  vl : ∀ z ∈ t, valD kv (.inl z.1) = some (bxd z.2)
theorem TW.wk {i : Nat} {tb : Tb} (h : TW i tb) (hi : i ≤ 10) : Wk (bxsD tb) (tbS tb) := by
  refine ⟨by rw [nms_S]; exact srtI_eq (srtI_perm _), by rw [nms_S]; exact ((srtI_perm _).nodup_iff).mpr h.nd, fun z hz => ?_, ?_, fun z hz => val_bx h.nd (S_mem h.nd hz)⟩
  · obtain ⟨a, b, c⟩ := h.bx z (S_mem h.nd hz)
    exact ⟨a, b.mono (by omega), b.mono (by omega), c⟩
  · unfold tbS
    rw [List.length_map, (srtI_perm _).length_eq]
    unfold nms
    rw [List.length_map]
    have := h.le
    omega
theorem TW.ini {i : Nat} {tb : Tb} (h : TW i tb) (hi : i ≤ 10) : ∀ b ∈ (tbS tb).map (·.2), BN (10 + 6 * i) b := fun b hb => by
  obtain ⟨z, hz, rfl⟩ := List.mem_map.mp hb
  exact (h.bx z (S_mem h.nd hz)).2.1
theorem Wk.ok {kv : List (Key × PyData)} {t u : Tb} (h : Wk kv t) (hs : u.Sublist t ∨ u.Sublist t.reverse) : TbOk u := by
  have hm : ∀ z ∈ u, z ∈ t := fun z hz => hs.elim (fun s => s.subset hz) fun s => List.mem_reverse.mp (s.subset hz)
  refine ⟨?_, fun z hz => (h.rg z (hm z hz)).2.2, ?_⟩
  · rcases hs with s | s
    · exact h.nd.sublist (s.map _)
    · refine (List.Nodup.sublist (s.map _) ?_ : (u.map (·.1)).Nodup)
      rw [List.map_reverse]
      exact ((List.reverse_perm _).nodup_iff).mpr h.nd
  · have := h.le
    rcases hs with s | s
    · have := s.length_le; omega
    · have := s.length_le; rw [List.length_reverse] at this; omega
/-! ### tables of four objects -/
def upN {α : Type} (f : Nat → α) (i : Nat) (x : α) : Nat → α := fun j => if j = i then x else f j
theorem upN_eq {α : Type} {f : Nat → α} {i : Nat} {x : α} : upN f i x i = x := if_pos rfl
theorem upN_ne {α : Type} {f : Nat → α} {i j : Nat} {x : α} (h : j ≠ i) : upN f i x j = f j := if_neg h
def tbm (base f g : Tb) (lo m : Nat) : Nat → Tb := fun j => if lo ≤ j ∧ j < lo + m then g else if lo ≤ j ∧ j < lo + 2 then f else base
def tbc (base g : Tb) (lo : Nat) : Nat → Tb := fun j => if lo ≤ j ∧ j < lo + 2 then g else base
theorem tbm_0 (base f g : Tb) (lo : Nat) : tbm base f g lo 0 = tbc base f lo := by
  funext j
  unfold tbm tbc
  rw [if_neg (by omega)]
theorem tbm_2 (base f g : Tb) (lo : Nat) : tbm base f g lo 2 = tbc base g lo := by
  funext j
  unfold tbm tbc
  by_cases c : lo ≤ j ∧ j < lo + 2
  · rw [if_pos c, if_pos c]
  · rw [if_neg c, if_neg c, if_neg c]
theorem tbm_at {base f g : Tb} {lo m : Nat} (h : m < 2) : tbm base f g lo m (lo + m) = f := by
  unfold tbm
  rw [if_neg (by omega), if_pos (by omega)]
theorem tbm_s {base f g : Tb} {lo m : Nat} : upN (tbm base f g lo m) (lo + m) g = tbm base f g lo (m + 1) := by
  funext j
  unfold upN tbm
  by_cases c : j = lo + m
  · rw [if_pos c, if_pos (by omega)]
  · rw [if_neg c]
    by_cases d : lo ≤ j ∧ j < lo + m
    · rw [if_pos d, if_pos (by omega)]
    · rw [if_neg d, if_neg (show ¬ (lo ≤ j ∧ j < lo + (m + 1)) by omega)]
theorem upN_2 {α : Type} {f : Nat → α} {i : Nat} {x y : α} : upN (upN f i x) i y = upN f i y := by
  funext j
  unfold upN
  split <;> rfl
/-! ### objects that stand side by side -/
def zA (P : Nat → Prop) (zs : Nat → Asn) : Asn := ⟨fun a => ∃ j, P j ∧ (zs j).foot a, fun G H => ∀ j, P j → (zs j).ok G H, fun M G H G2 H2 n s h j pj => (zs j).st M G H G2 H2 (fun a fa => n a ⟨j, pj, fa⟩) s (h j pj), fun G H a h ⟨j, pj, fa⟩ => (zs j).own G H a (h j pj) fa⟩
def IsX (K : PySem.W.Frag) (CB CT : Addr) (j : Nat) : IsP := if j % 2 = 0 then IsB K CB else IsT K CT
structure Obs (ks : Nat → IsP) (n : Nat) (p : Addr) (qs : Nat → Addr) (tb : Nat → Tb) (zs : Nat → Asn) : Prop where
  is : ∀ j, j < n → ks j (qs j) (tb j) (zs j)
  ap : ∀ i j, i < n → j < n → i ≠ j → Apart (zs i) (zs j)
  np : ∀ j, j < n → ¬ (zs j).foot p
section
variable {K : PySem.W.Frag} {ks : Nat → IsP} {n i : Nat} {p : Addr} {qs : Nat → Addr} {tb tb' : Nat → Tb} {zs : Nat → Asn} {C : DS} {T0 Y I : Asn} {G H : Hp} {t : Tb} {ρ : Rho} {te ta : TE} {tr : TA} {CB CT : Addr} {m : Str} {d : Dat} {ds : List Dat}
theorem Obs.cg (h : Obs ks n p qs tb zs) (e : ∀ j, j < n → tb' j = tb j) : Obs ks n p qs tb' zs := ⟨fun j hj => by rw [e j hj]; exact h.is j hj, h.ap, h.np⟩
abbrev bA (K : PySem.W.Frag) (p : Addr) (C : DS) (T0 : Asn) (n : Nat) (zs : Nat → Asn) : Asn := dJ K p C ((zA (fun j => j < n) zs).and T0)
abbrev oR (K : PySem.W.Frag) (p : Addr) (C : DS) (T0 : Asn) (n i : Nat) (zs : Nat → Asn) : Asn := (zA (fun j => j < n ∧ j ≠ i) zs).and (dJ K p C T0)
theorem fo_in (hi : i < n) (z : (bA K p C T0 n zs).ok G H) : ((zs i).and (oR K p C T0 n i zs)).ok G H := ⟨z.2.1 i hi, fun j hj => z.2.1 j hj.1, z.1, z.2.2⟩
theorem fo_out (z : (Y.and (oR K p C T0 n i zs)).ok G H) : (bA K p C T0 n (upN zs i Y)).ok G H := ⟨z.2.2.1, fun j hj => by
  by_cases c : j = i
  · rw [c, upN_eq]; exact z.1
  · rw [upN_ne c]; exact z.2.1 j ⟨hj, c⟩, z.2.2.2⟩
theorem fo_ap (ob : Obs ks n p qs tb zs) (hi : i < n) (nt : ∀ a, ¬ T0.foot a) : Apart (zs i) (oR K p C T0 n i zs) := fun a fa fz => by
  rcases fz with ⟨j, ⟨hj, ne⟩, fz⟩ | fz | fz
  · exact ob.ap i j hi hj (Ne.symm ne) a fa fz
  · have fz : a = p := fz
    exact ob.np i hi (fz ▸ fa)
  · exact nt a fz
theorem Obs.up (ob : Obs ks n p qs tb zs) (hY : ks i (qs i) t Y) (ap : Apart Y (oR K p C T0 n i zs)) : Obs ks n p qs (upN tb i t) (upN zs i Y) := by
  refine ⟨fun j hj => ?_, fun a b ha hb ne => ?_, fun j hj => ?_⟩
  · by_cases c : j = i
    · rw [c, upN_eq, upN_eq]; exact hY
    · rw [upN_ne c, upN_ne c]; exact ob.is j hj
  · by_cases c : a = i
    · have c2 : b ≠ i := fun z => ne (c.trans z.symm)
      rw [c, upN_eq, upN_ne c2]
      exact fun x fx fz => ap x fx (.inl ⟨b, ⟨hb, c2⟩, fz⟩)
    · rw [upN_ne c]
      by_cases c2 : b = i
      · rw [c2, upN_eq]
        exact fun x fx fz => ap x fz (.inl ⟨a, ⟨ha, c⟩, fx⟩)
      · rw [upN_ne c2]
        exact ob.ap a b ha hb ne
  · by_cases c : j = i
    · rw [c, upN_eq]
      exact fun z => ap p z (.inr (.inl rfl))
    · rw [upN_ne c]
      exact ob.np j hj
theorem en_mutJ (ob : Obs ks n p qs tb zs) (hi : i < n) (h : EN K te ρ ((zs i).and (oR K p C T0 n i zs)) (fun d L => ∃ Y, ks i (qs i) t Y ∧ Apart Y (oR K p C T0 n i zs) ∧ L = Y.and (oR K p C T0 n i zs))) : EN K te ρ (bA K p C T0 n zs) (fun _ L => ∃ zs', Obs ks n p qs (upN tb i t) zs' ∧ L = bA K p C T0 n zs') :=
  en_cv h (fun G H z => fo_in hi z) fun d L ⟨Y, hY, ap, e⟩ => ⟨_, ⟨upN zs i Y, ob.up hY ap, rfl⟩, fun G H z => fo_out (e ▸ z)⟩
theorem look_B {q : Addr} {u : Tb} {Z : Asn} (h : IsB K CB q u Z) (hm : ∀ x y z : Dat, List.lookup m [("boxes", x), ("ends", y), ("partners", z)] = none) : ∀ G H, Z.ok G H → ∃ dx us, H q = some (.ins CB dx us) ∧ us.lookup m = none := by
  obtain ⟨ab, ae, ap, pt, ok, rfl⟩ := h
  exact fun G H z => ca_look z b_ins (hm _ _ _)
theorem look_T {q : Addr} {u : Tb} {Z : Asn} (h : IsT K CT q u Z) (hm : ∀ x y : Dat, List.lookup m [("_boxes", x), ("_top", y)] = none) : ∀ G H, Z.ok G H → ∃ dx us, H q = some (.ins CT dx us) ∧ us.lookup m = none := by
  obtain ⟨ab, top, ne, tk, rfl⟩ := h
  exact fun G H z => ca_look z t_ins (hm _ _)
theorem ins_B {q : Addr} {u : Tb} {Z : Asn} (h : IsB K CB q u Z) : ∀ G H, Z.ok G H → ∃ dx us, H q = some (.ins CB dx us) := by
  obtain ⟨ab, ae, ap, pt, ok, rfl⟩ := h
  exact fun G H z => let ⟨dx, us, e, _⟩ := ca_ins z b_ins; ⟨dx, us, e⟩
theorem ins_T {q : Addr} {u : Tb} {Z : Asn} (h : IsT K CT q u Z) : ∀ G H, Z.ok G H → ∃ dx us, H q = some (.ins CT dx us) := by
  obtain ⟨ab, top, ne, tk, rfl⟩ := h
  exact fun G H z => let ⟨dx, us, e, _⟩ := ca_ins z t_ins; ⟨dx, us, e⟩
theorem isx_0 (h : i % 2 = 0) : IsX K CB CT i = IsB K CB := if_pos h
theorem isx_1 (h : ¬ i % 2 = 0) : IsX K CB CT i = IsT K CT := if_neg h
/-- a method of either class that changes its object -/
theorem en_mut2 {T : Tbs} {RF : IsP → List Dat → Asn → (Dat → Asn → Prop) → Prop} {XB XT : XK} [hT : HasT T T0] (ob : Obs (IsX K CB CT) n p qs tb zs) (hi : i < n) (nt : ∀ a, ¬ T0.foot a)
    (hmB : ∀ x y z : Dat, List.lookup m [("boxes", x), ("ends", y), ("partners", z)] = none) (hmT : ∀ x y : Dat, List.lookup m [("_boxes", x), ("_top", y)] = none)
    (ha : ∀ I, PL.E K ta ρ I (.r (qs i)) I) (hr : ∀ I, A K tr ρ I ds I) (hR : ∀ (Is : IsP) Z, Is (qs i) (tb i) Z → RF Is (.r (qs i) :: ds) Z (fun d Y => d = .d .none ∧ Is (qs i) t Y)) :
    EN K (tOr2 (tMeth CB m (spM K T (RF (IsB K CB))) [] XB ta tr) (tMeth CT m (spM K T (RF (IsT K CT))) [] XT ta tr)) ρ (bA K p C T0 n zs) (fun _ L => ∃ zs', Obs (IsX K CB CT) n p qs (upN tb i t) zs' ∧ L = bA K p C T0 n zs') := by
  refine en_mutJ ob hi ?_
  have is := ob.is i hi
  by_cases c : i % 2 = 0
  · rw [isx_0 c] at is
    rw [isx_0 c]
    exact en_or2A (en_methM (ha _) (hr _) (look_B is hmB) (hR _ _ is) (fo_ap ob hi nt) fun d Y po ap => ⟨Y, po.2, ap, rfl⟩)
  · rw [isx_1 c] at is
    rw [isx_1 c]
    exact en_or2B (en_methM (ha _) (hr _) (look_T is hmT) (hR _ _ is) (fo_ap ob hi nt) fun d Y po ap => ⟨Y, po.2, ap, rfl⟩)
/-- a question to an object of either class -/
theorem e_qry2 {TB TT : Tbs} {RF : IsP → List Dat → Asn → Dat → Prop} {XB XT : XK} [hB : HasT TB I] [hT : HasT TT I] (ob : Obs (IsX K CB CT) n p qs tb zs) (hi : i < n) (hI : ∀ G H, I.ok G H → (zA (fun j => j < n) zs).ok G H)
    (hmB : ∀ x y z : Dat, List.lookup m [("boxes", x), ("ends", y), ("partners", z)] = none) (hmT : ∀ x y : Dat, List.lookup m [("_boxes", x), ("_top", y)] = none)
    (ha : PL.E K ta ρ I (.r (qs i)) I) (hr : A K tr ρ I ds I) (hR : ∀ (Is : IsP) Z, Is (qs i) (tb i) Z → RF Is (.r (qs i) :: ds) Z d) :
    PL.E K (tOr2 (tMeth CB m (spQ K TB (RF (IsB K CB))) [] XB ta tr) (tMeth CT m (spQ K TT (RF (IsT K CT))) [] XT ta tr)) ρ I d I := by
  have is := ob.is i hi
  by_cases c : i % 2 = 0
  · rw [isx_0 c] at is
    exact e_or2A (e_methQ ha hr (fun G H z => look_B is hmB G H (hI G H z i hi)) (fun G H z => hI G H z i hi) (hR _ _ is))
  · rw [isx_1 c] at is
    exact e_or2B (e_methQ ha hr (fun G H z => look_T is hmT G H (hI G H z i hi)) (fun G H z => hI G H z i hi) (hR _ _ is))
theorem e_qryB {TB : Tbs} {R : List Dat → Asn → Dat → Prop} {XB : XK} [hB : HasT TB I] (ob : Obs (IsX K CB CT) n p qs tb zs) (hi : i < n) (c : i % 2 = 0) (hI : ∀ G H, I.ok G H → (zA (fun j => j < n) zs).ok G H)
    (hmB : ∀ x y z : Dat, List.lookup m [("boxes", x), ("ends", y), ("partners", z)] = none)
    (ha : PL.E K ta ρ I (.r (qs i)) I) (hr : A K tr ρ I ds I) (hR : ∀ Z, IsB K CB (qs i) (tb i) Z → R (.r (qs i) :: ds) Z d) : PL.E K (tMeth CB m (spQ K TB R) [] XB ta tr) ρ I d I := by
  have is := ob.is i hi
  rw [isx_0 c] at is
  exact e_methQ ha hr (fun G H z => look_B is hmB G H (hI G H z i hi)) (fun G H z => hI G H z i hi) (hR _ is)
theorem e_qryT {TT : Tbs} {R : List Dat → Asn → Dat → Prop} {XT : XK} [hT : HasT TT I] (ob : Obs (IsX K CB CT) n p qs tb zs) (hi : i < n) (c : ¬ i % 2 = 0) (hI : ∀ G H, I.ok G H → (zA (fun j => j < n) zs).ok G H)
    (hmT : ∀ x y : Dat, List.lookup m [("_boxes", x), ("_top", y)] = none)
    (ha : PL.E K ta ρ I (.r (qs i)) I) (hr : A K tr ρ I ds I) (hR : ∀ Z, IsT K CT (qs i) (tb i) Z → R (.r (qs i) :: ds) Z d) : PL.E K (tMeth CT m (spQ K TT R) [] XT ta tr) ρ I d I := by
  have is := ob.is i hi
  rw [isx_1 c] at is
  exact e_methQ ha hr (fun G H z => look_T is hmT G H (hI G H z i hi)) (fun G H z => hI G H z i hi) (hR _ is)
theorem e_nms2 {TB TT : Tbs} {R : IsP → List Dat → Asn → Dat → Prop} {XB XT : XK} [hB : HasT TB I] [hT : HasT TT I] (ob : Obs (IsX K CB CT) n p qs tb zs) (hi : i < n) (hI : ∀ G H, I.ok G H → (zA (fun j => j < n) zs).ok G H)
    (ha : PL.E K ta ρ I (.r (qs i)) I) (hR : ∀ (Is : IsP) Z, Is (qs i) (tb i) Z → R Is [.r (qs i)] Z d) :
    PL.E K (tOr2 (tProp CB (spQ K TB (R (IsB K CB))) [] XB ta) (tProp CT (spQ K TT (R (IsT K CT))) [] XT ta)) ρ I d I := by
  have is := ob.is i hi
  by_cases c : i % 2 = 0
  · rw [isx_0 c] at is
    exact e_or2A (e_propQ ha (fun G H z => ins_B is G H (hI G H z i hi)) (fun G H z => hI G H z i hi) (hR _ _ is))
  · rw [isx_1 c] at is
    exact e_or2B (e_propQ ha (fun G H z => ins_T is G H (hI G H z i hi)) (fun G H z => hI G H z i hi) (hR _ _ is))
end
/-! ### what reversed tables tell -/
theorem en_rev (t : Tb) : (enT t.reverse).Perm (enT t) := by
  unfold enT
  rw [List.map_reverse]
  exact List.reverse_perm _
theorem nms_rev (t : Tb) : (nms t.reverse).Perm (nms t) := by
  unfold nms
  rw [List.map_reverse]
  exact List.reverse_perm _
theorem del_rev (t : Tb) (i : Int) : delT t.reverse i = (delT t i).reverse := List.filter_reverse
theorem boxE_rev {t : Tb} (nd : (nms t).Nodup) {i : Int} (h : i ∈ nms t) : boxE t.reverse i = boxE t i := by
  obtain ⟨b, hb⟩ := has_bx h
  rw [boxE_of nd hb, boxE_of (((nms_rev t).nodup_iff).mpr nd) (List.mem_reverse.mpr hb)]
theorem metN_rev {t : Tb} (nd : (nms t).Nodup) {i : Int} (h : i ∈ nms t) : (metN t.reverse i).Perm (metN t i) := by
  unfold metN
  rw [boxE_rev nd h, del_rev]
  exact met_pm (en_rev _) _
theorem prs_rev {t : Tb} (nd : (nms t).Nodup) : prsF t.reverse = prsF t := by
  unfold prsF
  rw [srtI_eq (nms_rev t)]
  have key : ∀ l : List Int, (∀ i ∈ l, i ∈ nms t) → (l.flatMap fun i => ((srtI (metN t.reverse i)).filter fun m => decide (i < m)).map fun m => (i, m)) = l.flatMap fun i => ((srtI (metN t i)).filter fun m => decide (i < m)).map fun m => (i, m) := by
    intro l
    induction l with
    | nil => exact fun _ => rfl
    | cons i l ih =>
      intro h
      rw [List.flatMap_cons, List.flatMap_cons, ih fun j hj => h j (List.mem_cons_of_mem _ hj), srtI_eq (metN_rev nd (h i List.mem_cons_self))]
  exact key _ fun i hi => (srtI_perm _).mem_iff.mp hi
abbrev TQ (t u : Tb) : Prop := u = t ∨ u = t.reverse
theorem tq_c (t : Tb) (j : Nat) : TQ t (tbc t t.reverse 2 j) := by
  unfold tbc
  split
  · exact .inr rfl
  · exact .inl rfl
theorem tq_near {t u : Tb} (h : TQ t u) (q : En) : srtI (metL (enT u) q) = srtI (metL (enT t) q) := by
  rcases h with rfl | rfl
  · rfl
  · exact srtI_eq (met_pm (en_rev _) _)
theorem tq_nms {t u : Tb} (h : TQ t u) : srtI (nms u) = srtI (nms t) := by
  rcases h with rfl | rfl
  · rfl
  · exact srtI_eq (nms_rev _)
theorem tq_mem {t u : Tb} (h : TQ t u) {z : Int × Bx} : z ∈ u ↔ z ∈ t := by
  rcases h with rfl | rfl
  · rfl
  · exact List.mem_reverse
theorem tq_prs {t u : Tb} (nd : (nms t).Nodup) (h : TQ t u) : prsF u = prsF t := by
  rcases h with rfl | rfl
  · rfl
  · exact prs_rev nd
theorem tq_least {t u : Tb} (h : TQ t u) {μ : En → Option F} {b : Option (Int × F)} (l : Least (enT t) μ b) : Least (enT u) μ b := l.of_mem fun z => by
  unfold enT
  rw [List.mem_map, List.mem_map]
  exact ⟨fun ⟨y, hy, e⟩ => ⟨y, (tq_mem h).mp hy, e⟩, fun ⟨y, hy, e⟩ => ⟨y, (tq_mem h).mpr hy, e⟩⟩
/-- the detour of one turn -/
theorem tour_1 {u : Tb} {n m : Int} {b c : Bx} (hn : n ∉ nms u) (hm : m ∉ nms u) (ne : n ≠ m) : delT (delT (u ++ [(n, c)] ++ [(m, b)]) n ++ [(n, b)]) m = u ++ [(n, b)] := by
  have ne2 : ¬ m = n := fun z => ne z.symm
  have e1 : delT (u ++ [(n, c)] ++ [(m, b)]) n = u ++ [(m, b)] := by rw [del_app (u ++ [(n, c)]) n (m, b), if_neg (show ¬ (m, b).1 = n from ne2), del_app u n (n, c), if_pos (show (n, c).1 = n from rfl), List.append_nil, del_self hn]
  have e2 : delT (u ++ [(m, b)] ++ [(n, b)]) m = u ++ [(n, b)] := by rw [del_app (u ++ [(m, b)]) m (n, b), if_neg (show ¬ (n, b).1 = m from ne), del_app u m (m, b), if_pos (show (m, b).1 = m from rfl), List.append_nil, del_self hm]
  rw [e1, e2]
theorem eqv_selfL {x : PyData} (h : SeqAt.shaped x = true) : PyData.eqv x x = true := SeqAt.eqv_refl x (SeqAt.canLay_of_shaped h)
theorem shaped_best : ∀ b : Option (Int × F), SeqAt.shaped (bestD b) = true
  | none => rfl
  | some b => by obtain ⟨n, x⟩ := b; rfl
theorem shaped_ints (l : List Int) : SeqAt.shaped (.tuple (l.map PyData.int)) = true := by
  have h : PyData.canLayAll0 (l.map PyData.int) = true ∧ PyData.depthAll (l.map PyData.int) ≤ 1 := by
    induction l with
    | nil => exact ⟨by simp [PyData.canLayAll0], by simp [PyData.depthAll]⟩
    | cons a l ih =>
      refine ⟨?_, ?_⟩
      · show (PyData.canLay0 (.int a) && PyData.canLayAll0 (l.map PyData.int)) = true
        rw [ih.1]
        rfl
      · show max (PyData.depth (.int a)) (PyData.depthAll (l.map PyData.int)) ≤ 1
        have : PyData.depth (.int a) ≤ 1 := by simp [PyData.depth]
        omega
  unfold SeqAt.shaped
  have h1 : PyData.canLay0 (.tuple (l.map PyData.int)) = true := h.1
  have h2 : PyData.depth (.tuple (l.map PyData.int)) ≤ 64 := by
    show PyData.depthAll (l.map PyData.int) + 1 ≤ 64
    omega
  rw [h1, decide_eq_true h2]
  rfl
theorem shaped_iis (l : List (Int × Int)) : SeqAt.shaped (.tuple (l.map iiD)) = true := by
  have h : PyData.canLayAll0 (l.map iiD) = true ∧ PyData.depthAll (l.map iiD) ≤ 2 := by
    induction l with
    | nil => exact ⟨by simp [PyData.canLayAll0], by simp [PyData.depthAll]⟩
    | cons a l ih =>
      refine ⟨?_, ?_⟩
      · show (PyData.canLay0 (iiD a) && PyData.canLayAll0 (l.map iiD)) = true
        rw [ih.1]
        rfl
      · show max (PyData.depth (iiD a)) (PyData.depthAll (l.map iiD)) ≤ 2
        have : PyData.depth (iiD a) ≤ 2 := by simp [PyData.depth, PyData.depthAll]
        omega
  unfold SeqAt.shaped
  have h1 : PyData.canLay0 (.tuple (l.map iiD)) = true := h.1
  have h2 : PyData.depth (.tuple (l.map iiD)) ≤ 64 := by
    show PyData.depthAll (l.map iiD) + 1 ≤ 64
    omega
  rw [h1, decide_eq_true h2]
  rfl
theorem shaped_bxL (b : Bx) : SeqAt.shaped (bxd b) = true := rfl
/-! ### rules for the law -/
section
variable {K : PySem.W.Frag} {ks : Nat → IsP} {n i j lo : Nat} {p q : Addr} {qs : Nat → Addr} {tb tb' : Nat → Tb} {zs : Nat → Asn} {C : DS} {T0 Y I J V : Asn} {G H : Hp} {t : Tb} {ρ : Rho} {te ta tl tk ty : TE} {tr : TA} {ts : TS} {CB CT : Addr} {m : Str} {d : Dat} {ds : List Dat} {k : Out}
theorem s_noseq (h : S K (tSeq ts tNext) ρ I k) : S K ts ρ I k := h
/-- x[n] = e, e and then n drawn -/
theorem s_putEN {kvs : List (Key × PyData)} {Q0 : PyData → DS → Prop} {P : Rho → Asn → Prop} (he : EN K te ρ (dJ K p C (kJ K q kvs J)) (fun d M => ∃ x C', d = .d x ∧ Q0 x C' ∧ M = dJ K p C' (kJ K q kvs J))) (hi : ρ[i]? = some (some (.r q)))
    (hy : ∀ x C', Q0 x C' → ∃ n C2, PL.E K ty ρ (dJ K p C' (kJ K q kvs J)) (.i n) (dJ K p C2 (kJ K q kvs J)) ∧ P ρ (dJ K p C2 (kJ K q (putD kvs (.inl n) x) J))) (hl : kvs.length < 100000) (hf : ¬ J.foot q) (pq : q ≠ p) :
    S K (sDPut (tVar i) ty te) ρ (dJ K p C (kJ K q kvs J)) (.ne P) := fun G H σ D gh en io f => he G H σ gh en io _ fun d M ⟨x, C', ed, q0, eM⟩ v G1 H1 g1 gh1 j1 dv => by
  subst ed eM
  obtain ⟨n, C2, hE, hP⟩ := hy x C' q0
  obtain ⟨o, ho, eo⟩ := env_get en hi
  have eo : o = .ref q := eo
  subst eo
  refine ⟨.ref q, ho, hE G1 H1 σ gh1 (env_mono g1 en) j1 _ fun w G2 H2 g2 gh2 j2 dw => ?_⟩
  obtain rfl := dv_int dw
  obtain ⟨jd, ⟨gq, vs, hq, r⟩, jo⟩ := j2
  have hlen := kv_len r
  refine ⟨q, _, rfl, DPut.k (k := .inl n) hq (Nat.lt_of_lt_of_le (by omega : vs.length < 100000) (by rw [sizeLine_eq]; decide)), ?_⟩
  have st := Stp.store (o := HO.dK (putK vs (.inl n) v)) gh2 gq hq
  exact f ρ _ hP G2 _ σ (g1.trans g2) st.gh (env_mono (g1.trans g2) en) ⟨(dA K p C2).st _ _ _ _ _ (fun a fa (z : a = q) => by
    have fa : a = p := fa
    exact pq (z.symm.trans fa)) st jd, ⟨gq, _, upd_same, kv_put r (dp_mono g2 _ _ dv)⟩, J.st _ _ _ _ _ (fun a fa (z : a = q) => hf (z ▸ fa)) st jo⟩
theorem rowK_all {α : Type} {xs : List α} {f : α → PyData} {e : Nat → PyData} (h : ∀ i x, xs[i]? = some x → e i = f x) : rowK (fun _ => true) e xs.length = xs.map f := by
  rw [rowK_of (p := fun _ => true) (f := f) fun i x hx => ⟨rfl, h i x hx⟩, List.filter_eq_self.mpr fun _ _ => rfl]
/-- [e for name in names], e the box of name -/
theorem e_bxs {vs : List Nat} (hj : j ∈ vs) (ht : t.length ≤ 1000) (hl : PL.E K tl ρ I (.d (.list ((nms t).map PyData.int))) I)
    (hg : ∀ (i : Nat) (z : Int × Bx), t[i]? = some z → ∀ I', (∀ G H, I'.ok G H → I.ok G H) → PL.E K te ((wipeR ρ vs).set j (some (.i z.1))) I' (.d (bxd z.2)) I') :
    PL.E K (tLc (iList K tl) (gName j) tYes te vs) ρ I (.d (.list ((t.map (·.2)).map bxd))) I := by
  have ln : ((nms t).map PyData.int).length = t.length := by rw [List.length_map]; exact List.length_map _
  have e0 := e_lcV (K := K) (ρ := ρ) (I := I) (wi := iList K tl) (g := gName j) (tt := tYes) (te := te) (vs := vs) (b := fun _ => true) (e := fun i => bxd ((t[i]?.map (·.2)).getD ⟨(0, 1), (0, 1), (0, 1), (0, 1)⟩)) (iw_l hl) (by rw [ln]; omega) fun i hi => by
    rw [ln] at hi
    have hz : t[i]? = some t[i] := List.getElem?_eq_getElem hi
    have ea : at0 ((nms t).map PyData.int) i = .int t[i].1 := by
      rw [at0_map (f := PyData.int) (z := t[i].1) (by unfold nms; rw [List.getElem?_map, hz]; rfl)]
    rw [ea, hz]
    exact ⟨_, w_name hj, fun I' _ => t_yes, fun _ I' h => hg i _ hz I' h⟩
  refine e_is e0 ?_
  rw [ln, rowK_all (xs := t) (f := fun z => bxd z.2) fun i z hz => by rw [hz]; rfl, List.map_map]
  rfl
def at4 {α : Type} (a b c d : α) (j : Nat) : α := match j with
  | 0 => a
  | 1 => b
  | 2 => c
  | _ => d
/-- (Broad(), Tree()) -/
theorem en_two {XB XT : XK} : EN K (tTup (tCons (tMake CB (spM K noT (RInitO K CB (IsB K CB))) [] XB tNil) (tCons (tMake CT (spM K noT (RInitO K CT (IsT K CT))) [] XT tNil) tNil))) ρ V (fun d L => ∃ a1 a2 Y1 Y2, d = dR K [a1, a2] ∧ IsB K CB a1 [] Y1 ∧ IsT K CT a2 [] Y2 ∧ Apart Y1 V ∧ Apart Y2 (Y1.and V) ∧ L = Y2.and (Y1.and V)) :=
  en_tupR (P := fun ds L => ∃ a1 a2 Y1 Y2, ds = [.r a1, .r a2] ∧ IsB K CB a1 [] Y1 ∧ IsT K CT a2 [] Y2 ∧ Apart Y1 V ∧ Apart Y2 (Y1.and V) ∧ L = Y2.and (Y1.and V))
    (an_cons (en_makeM (Is := fun a Y => IsB K CB a [] Y) fun a => ⟨a, rfl, rfl, rfl⟩) fun d L ⟨a1, Y1, e1, is1, ap1, e2⟩ => by
      subst e1 e2
      exact an_cons (en_makeM (Is := fun a Y => IsT K CT a [] Y) fun a => ⟨a, rfl, rfl, rfl⟩) fun d L ⟨a2, Y2, e1, is2, ap2, e2⟩ => by
        subst e1 e2
        exact an_of a_nil ⟨a1, a2, Y1, Y2, rfl, is1, is2, ap1, ap2, rfl⟩)
    fun ds L ⟨a1, a2, Y1, Y2, e, h⟩ => ⟨[a1, a2], e, (show 2 ≤ 100000 by decide), a1, a2, Y1, Y2, rfl, h⟩
theorem obs_4 {a1 a2 a3 a4 : Addr} {Y1 Y2 Y3 Y4 : Asn} (i1 : IsB K CB a1 [] Y1) (i2 : IsT K CT a2 [] Y2) (i3 : IsB K CB a3 [] Y3) (i4 : IsT K CT a4 [] Y4) (p1 : Apart Y1 V) (p2 : Apart Y2 (Y1.and V)) (p3 : Apart Y3 (Y2.and (Y1.and V))) (p4 : Apart Y4 (Y3.and (Y2.and (Y1.and V)))) (hp : V.foot p) : Obs (IsX K CB CT) 4 p (at4 a1 a2 a3 a4) (fun _ => []) (at4 Y1 Y2 Y3 Y4) := by
  have a21 : Apart Y2 Y1 := fun a x y => p2 a x (.inl y)
  have a32 : Apart Y3 Y2 := fun a x y => p3 a x (.inl y)
  have a31 : Apart Y3 Y1 := fun a x y => p3 a x (.inr (.inl y))
  have a43 : Apart Y4 Y3 := fun a x y => p4 a x (.inl y)
  have a42 : Apart Y4 Y2 := fun a x y => p4 a x (.inr (.inl y))
  have a41 : Apart Y4 Y1 := fun a x y => p4 a x (.inr (.inr (.inl y)))
  refine ⟨fun j hj => ?_, fun i j hi hj ne => ?_, fun j hj => ?_⟩
  · match j, hj with
    | 0, _ => exact i1
    | 1, _ => exact i2
    | 2, _ => exact i3
    | 3, _ => exact i4
  · match i, j, hi, hj, ne with
    | 0, 0, _, _, ne => exact absurd rfl ne
    | 0, 1, _, _, _ => exact fun a x y => a21 a y x
    | 0, 2, _, _, _ => exact fun a x y => a31 a y x
    | 0, 3, _, _, _ => exact fun a x y => a41 a y x
    | 1, 0, _, _, _ => exact a21
    | 1, 1, _, _, ne => exact absurd rfl ne
    | 1, 2, _, _, _ => exact fun a x y => a32 a y x
    | 1, 3, _, _, _ => exact fun a x y => a42 a y x
    | 2, 0, _, _, _ => exact a31
    | 2, 1, _, _, _ => exact a32
    | 2, 2, _, _, ne => exact absurd rfl ne
    | 2, 3, _, _, _ => exact fun a x y => a43 a y x
    | 3, 0, _, _, _ => exact a41
    | 3, 1, _, _, _ => exact a42
    | 3, 2, _, _, _ => exact a43
    | 3, 3, _, _, ne => exact absurd rfl ne
  · match j, hj with
    | 0, _ => exact fun z => p1 p z hp
    | 1, _ => exact fun z => p2 p z (.inr hp)
    | 2, _ => exact fun z => p3 p z (.inr (.inr hp))
    | 3, _ => exact fun z => p4 p z (.inr (.inr (.inr hp)))
theorem nf_o (ob : Obs ks n p qs tb zs) (nt : ∀ a, ¬ T0.foot a) : ¬ ((zA (fun j => j < n) zs).and T0).foot p := fun z => by
  rcases z with ⟨j, hj, fz⟩ | z
  · exact ob.np j hj fz
  · exact nt p z
theorem two_at {lo m : Nat} (h : [qs lo, qs (lo + 1)][m]? = some q) : m < 2 ∧ q = qs (lo + m) := by
  match m, h with
  | 0, h => exact ⟨by decide, (Option.some.inj h).symm⟩
  | 1, h => exact ⟨by decide, (Option.some.inj h).symm⟩
  | m + 2, h => cases h
theorem four_at {m : Nat} (h : ([qs 0, qs 1] ++ [qs 2, qs 3])[m]? = some q) : m < 4 ∧ q = qs m := by
  match m, h with
  | 0, h => exact ⟨by decide, (Option.some.inj h).symm⟩
  | 1, h => exact ⟨by decide, (Option.some.inj h).symm⟩
  | 2, h => exact ⟨by decide, (Option.some.inj h).symm⟩
  | 3, h => exact ⟨by decide, (Option.some.inj h).symm⟩
  | m + 4, h => cases h
theorem take_no {t : Tb} {k : Nat} {z : Int × Bx} (nd : (nms t).Nodup) (h : t[k]? = some z) : t.take (k + 1) = t.take k ++ [z] ∧ z.1 ∉ nms (t.take k) := by
  have e : t.take (k + 1) = t.take k ++ [z] := by rw [List.take_add_one, h]; rfl
  refine ⟨e, fun hm => ?_⟩
  have nd2 : (nms (t.take (k + 1))).Nodup := nd.sublist ((List.take_sublist _ _).map _)
  unfold nms at nd2
  rw [e, List.map_append] at nd2
  exact (List.nodup_append.mp nd2).2.2 _ hm _ List.mem_cons_self rfl
end
theorem rep_true : ∀ n : Nat, ((List.replicate n true).all id) = true
  | 0 => rfl
  | n + 1 => by rw [List.replicate_succ, List.all_cons, rep_true n]; rfl
theorem row_true (n : Nat) : rowK (fun _ => true) (fun _ => PyData.bool true) n = (List.replicate n true).map PyData.bool := by
  induction n with
  | zero => rfl
  | succ n ih => rw [rowK_s, if_pos rfl, ih, List.replicate_succ', List.map_append]; rfl
section
variable {P : Program} {w : World} {K : PySem.W.Frag} {mg : Str → Option Value} {base : Heap}
theorem fok_plus (Tp : Top K mg base) : FnOk P w K mg base CX0 1 Tp.f_plus Tp.d_plus ["a", "b"] (spP K (RPlus plusM)) := by
  refine Tp.F_plus.ok sc_plus (fun vs H Q E h => len_P (fun _ _ z => z.len) h) (fun cdv A outer s H vs Q E hr h => ?_)
  refine ⟨_, (pss_cons (ps_set (i := 2) sc_plus.nd rfl (.inl rfl) (pe_callBfun cr_gcd (by rfl) Tp.n_gcd (pa_cons (pe_ix (r := rIxT K) ix_tup (pv 0) pe_int (fun _ _ => rfl)) (pa_cons (pe_ix (r := rIxT K) ix_tup (pv 1) pe_int (fun _ _ => rfl)) pa_nil))))
      (pss_cons (ps_set (i := 3) sc_plus.nd rfl (.inl rfl) (pe_op op_fdivW (pe_ix (r := rIxT K) ix_tup (pv 0) pe_int (fun _ _ => rfl)) (pv 2)))
      (pss_cons (ps_set (i := 4) sc_plus.nd rfl (.inl rfl) (pe_op op_add (pe_op op_mulW (pe_ix (r := rIxT K) ix_tup (pv 0) pe_int (fun _ _ => rfl)) (pe_op op_fdivW (pe_ix (r := rIxT K) ix_tup (pv 1) pe_int (fun _ _ => rfl)) (pv 2))) (pe_op op_mulW (pe_ix (r := rIxT K) ix_tup (pv 1) pe_int (fun _ _ => rfl)) (pv 3))))
      (pss_cons (ps_set (i := 5) sc_plus.nd rfl (.inl rfl) (pe_callBfun cr_gcd (by rfl) Tp.n_gcd (pa_cons (pv 4) (pa_cons (pv 2) pa_nil))))
      (pss_one (ps_ret (pe_tup (pa_cons (pe_op op_fdivW (pv 4) (pv 5)) (pa_cons (pe_op op_mulW (pv 3) (pe_op op_fdivW (pe_ix (r := rIxT K) ix_tup (pv 1) pe_int (fun _ _ => rfl)) (pv 5))) pa_nil))))))))), body_P ?_ h⟩
  refine fun ds d r I => ?_
  obtain ⟨a, b, rfl, ha, hb, rfl⟩ := r
  walk_at "norm"
  have pa := ha.nrm.1
  have pb := hb.nrm.1
  
  have s0 : Int.gcd a.2 b.2 ≠ 0 := Int.gcd_ne_zero_right (by omega)
  have z1 : ((Int.gcd a.2 b.2 : Nat) : Int).natAbs < 2 ^ 4000 := sz_gcd hb.sz.2 (by omega)
  have z2 := sz_div ha.sz.2 (Int.gcd_dvd_left a.2 b.2)
  have z3 := sz_div hb.sz.2 (Int.gcd_dvd_right a.2 b.2)
  have hg : (0 : Int) < (Int.gcd a.2 b.2 : Nat) := by omega
  refine q_asg (d := .i (Int.gcd a.2 b.2 : Nat)) (by walk_at "ev") ?_
  refine q_asg (d := .i (a.2 / (Int.gcd a.2 b.2 : Nat))) (by walk_at "ev"; exact divW hg z1 (by decide)) ?_
  refine q_asg (d := .i (a.1 * (b.2 / (Int.gcd a.2 b.2 : Nat)) + b.1 * (a.2 / (Int.gcd a.2 b.2 : Nat)))) ?_ ?_
  · walk_at "ev"
    · exact divW hg z1 (by decide)
    · exact mulW ha.sz.1 z3 (by decide)
    · exact mulW hb.sz.1 z2 (by decide)
  · generalize hn : a.1 * (b.2 / (Int.gcd a.2 b.2 : Nat)) + b.1 * (a.2 / (Int.gcd a.2 b.2 : Nat)) = n
    have v0 : Int.gcd n (Int.gcd a.2 b.2 : Nat) ≠ 0 := Int.gcd_ne_zero_right (by omega)
    have zv : ((Int.gcd n (Int.gcd a.2 b.2 : Nat) : Nat) : Int).natAbs < 2 ^ 4000 := sz_gcd z1 (by omega)
    have hv : (0 : Int) < (Int.gcd n (Int.gcd a.2 b.2 : Nat) : Nat) := by omega
    have dv : ((Int.gcd n (Int.gcd a.2 b.2 : Nat) : Nat) : Int) ∣ b.2 := Int.dvd_trans (Int.gcd_dvd_right _ _) (Int.gcd_dvd_right _ _)
    refine q_asg (d := .i (Int.gcd n (Int.gcd a.2 b.2 : Nat) : Nat)) (by walk_at "ev") ?_
    refine p_ret (p_frac (x := n / (Int.gcd n (Int.gcd a.2 b.2 : Nat) : Nat)) (y := (a.2 / (Int.gcd a.2 b.2 : Nat)) * (b.2 / (Int.gcd n (Int.gcd a.2 b.2 : Nat) : Nat))) ?_ ?_)
    · walk_at "ev"
      · exact divW hv zv (by decide)
      · exact divW hv zv (by decide)
      · exact mulW z2 (sz_div hb.sz.2 dv) (by decide)
    · subst hn
      rfl
theorem fok_times (Tp : Top K mg base) : FnOk P w K mg base CX0 1 Tp.f_times Tp.d_times ["a", "b"] (spP K (RPlus timesM)) := by
  refine Tp.F_times.ok sc_times (fun vs H Q E h => len_P (fun _ _ z => z.len) h) (fun cdv A outer s H vs Q E hr h => ?_)
  refine ⟨_, (pss_cons (ps_set (i := 2) sc_times.nd rfl (.inl rfl) (pe_callBfun cr_gcd (by rfl) Tp.n_gcd (pa_cons (pe_ix (r := rIxT K) ix_tup (pv 0) pe_int (fun _ _ => rfl)) (pa_cons (pe_ix (r := rIxT K) ix_tup (pv 1) pe_int (fun _ _ => rfl)) pa_nil))))
      (pss_cons (ps_set (i := 3) sc_times.nd rfl (.inl rfl) (pe_callBfun cr_gcd (by rfl) Tp.n_gcd (pa_cons (pe_ix (r := rIxT K) ix_tup (pv 1) pe_int (fun _ _ => rfl)) (pa_cons (pe_ix (r := rIxT K) ix_tup (pv 0) pe_int (fun _ _ => rfl)) pa_nil))))
      (pss_one (ps_ret (pe_tup (pa_cons (pe_op op_mulW (pe_op op_fdivW (pe_ix (r := rIxT K) ix_tup (pv 0) pe_int (fun _ _ => rfl)) (pv 2)) (pe_op op_fdivW (pe_ix (r := rIxT K) ix_tup (pv 1) pe_int (fun _ _ => rfl)) (pv 3))) (pa_cons (pe_op op_mulW (pe_op op_fdivW (pe_ix (r := rIxT K) ix_tup (pv 0) pe_int (fun _ _ => rfl)) (pv 3)) (pe_op op_fdivW (pe_ix (r := rIxT K) ix_tup (pv 1) pe_int (fun _ _ => rfl)) (pv 2))) pa_nil))))))), body_P ?_ h⟩
  refine fun ds d r I => ?_
  obtain ⟨a, b, rfl, ha, hb, rfl⟩ := r
  walk_at "norm"
  have pa := ha.nrm.1
  have pb := hb.nrm.1
  
  have f0 : Int.gcd a.1 b.2 ≠ 0 := Int.gcd_ne_zero_right (by omega)
  have s0 : Int.gcd b.1 a.2 ≠ 0 := Int.gcd_ne_zero_right (by omega)
  have hf : (0 : Int) < (Int.gcd a.1 b.2 : Nat) := by omega
  have hs : (0 : Int) < (Int.gcd b.1 a.2 : Nat) := by omega
  have z1 : ((Int.gcd a.1 b.2 : Nat) : Int).natAbs < 2 ^ 4000 := sz_gcd hb.sz.2 (by omega)
  have z2 : ((Int.gcd b.1 a.2 : Nat) : Int).natAbs < 2 ^ 4000 := sz_gcd ha.sz.2 (by omega)
  refine q_asg (d := .i (Int.gcd a.1 b.2 : Nat)) (by walk_at "ev") ?_
  refine q_asg (d := .i (Int.gcd b.1 a.2 : Nat)) (by walk_at "ev") ?_
  refine p_ret (p_frac (x := (a.1 / (Int.gcd a.1 b.2 : Nat)) * (b.1 / (Int.gcd b.1 a.2 : Nat))) (y := (a.2 / (Int.gcd b.1 a.2 : Nat)) * (b.2 / (Int.gcd a.1 b.2 : Nat))) ?_ rfl)
  walk_at "ev"
  · exact divW hf z1 (by decide)
  · exact divW hs z2 (by decide)
  · exact mulW (sz_div ha.sz.1 (Int.gcd_dvd_left _ _)) (sz_div hb.sz.1 (Int.gcd_dvd_left _ _)) (by decide)
  · exact divW hs z2 (by decide)
  · exact divW hf z1 (by decide)
  · exact mulW (sz_div ha.sz.2 (Int.gcd_dvd_right _ _)) (sz_div hb.sz.2 (Int.gcd_dvd_right _ _)) (by decide)
theorem fok_compare (Tp : Top K mg base) : FnOk P w K mg base CX0 1 Tp.f_compare Tp.d_compare ["a", "b"] (spP K RCmp) := by
  refine Tp.F_compare.ok sc_compare (fun vs H Q E h => len_P (fun _ _ z => by obtain ⟨_, _, e, _⟩ := z; rw [e]; rfl) h) (fun cdv A outer s H vs Q E hr h => ?_)
  refine ⟨_, (pss_cons (ps_set (i := 2) sc_compare.nd rfl (.inl rfl) (pe_op op_mulW (pe_ix (r := rIxT K) ix_tup (pv 0) pe_int (fun _ _ => rfl)) (pe_ix (r := rIxT K) ix_tup (pv 1) pe_int (fun _ _ => rfl))))
      (pss_cons (ps_set (i := 3) sc_compare.nd rfl (.inl rfl) (pe_op op_mulW (pe_ix (r := rIxT K) ix_tup (pv 1) pe_int (fun _ _ => rfl)) (pe_ix (r := rIxT K) ix_tup (pv 0) pe_int (fun _ _ => rfl))))
      (pss_cons (ps_if (pt_cmpR op_lt (pv 2) (pv 3) (nomark _)) (pss_one (ps_ret (pe_un un_neg pe_int))) pss_nil)
      (pss_cons (ps_if (pt_cmpR op_gt (pv 2) (pv 3) (nomark _)) (pss_one (ps_ret pe_int)) pss_nil)
      (pss_one (ps_ret pe_int)))))), body_P ?_ h⟩
  refine fun ds d r I => ?_
  obtain ⟨a, b, rfl, ha, hb, rfl⟩ := r
  walk_at "norm"
  refine q_asg (d := .i (a.1 * b.2)) (by walk_at "ev"; exact mulW ha.sz.1 hb.sz.2 (by decide)) ?_
  refine q_asg (d := .i (b.1 * a.2)) (by walk_at "ev"; exact mulW hb.sz.1 ha.sz.2 (by decide)) ?_
  unfold cmpM
  by_cases c : a.1 * b.2 < b.1 * a.2
  · rw [if_pos c]
    exact s_stop (q_ifT (p_test (p_lt (i := a.1 * b.2) (j := b.1 * a.2) (by walk_at "ev") (by walk_at "ev"))) (decide_eq_true c) (p_ret (by walk_at "ev")))
  · rw [if_neg c]
    refine q_skip (p_test (p_lt (i := a.1 * b.2) (j := b.1 * a.2) (by walk_at "ev") (by walk_at "ev"))) (decide_eq_false c) ?_
    by_cases c2 : b.1 * a.2 < a.1 * b.2
    · rw [if_pos c2]
      exact s_stop (q_ifT (p_test (p_gt (i := a.1 * b.2) (j := b.1 * a.2) (by walk_at "ev") (by walk_at "ev"))) (decide_eq_true c2) (p_ret (by walk_at "ev")))
    · rw [if_neg c2]
      exact q_skip (p_test (p_gt (i := a.1 * b.2) (j := b.1 * a.2) (by walk_at "ev") (by walk_at "ev"))) (decide_eq_false c2) (p_ret (by walk_at "ev"))
theorem fok_is_sized (Tp : Top K mg base) : FnOk P w K mg base CX0 1 Tp.f_is_sized Tp.d_is_sized ["size"] (spP K RSized) := by
  refine Tp.F_is_sized.ok sc_is_sized (fun vs H Q E h => len_P (fun _ _ z => by obtain ⟨_, _, e, _⟩ := z; rw [e]; rfl) h) (fun cdv A outer s H vs Q E hr h => ?_)
  refine ⟨_, (pss_one (ps_ret (pe_and (pe_cmpR op_gt (pe_ix (r := rIxT K) ix_tup (pe_ix (r := rIxT K) ix_tup (pv 0) pe_int (fun _ _ => rfl)) pe_int (fun _ _ => rfl)) pe_int (nomark _)) (pe_one (pe_cmpR op_gt (pe_ix (r := rIxT K) ix_tup (pe_ix (r := rIxT K) ix_tup (pv 0) pe_int (fun _ _ => rfl)) pe_int (fun _ _ => rfl)) pe_int (nomark _)))))), body_P ?_ h⟩
  refine fun ds d r I => ?_
  obtain ⟨a, b, rfl, rfl⟩ := r
  walk_at "norm"
  exact p_ret (e_andV (p_gt (i := a.1) (j := 0) (by walk_at "ev") (by walk_at "ev")) fun _ => p_gt (i := b.1) (j := 0) (by walk_at "ev") (by walk_at "ev"))
theorem fok_point_ends (Tp : Top K mg base) : FnOk P w K mg base CX0 1 Tp.f_point_ends Tp.d_point_ends ["point"] (spP K RPointE) := by
  refine Tp.F_point_ends.ok sc_point_ends (fun vs H Q E h => len_P (fun _ _ ⟨_, e, _⟩ => by rw [e]; rfl) h) (fun cdv A outer s H vs Q E hr h => ?_)
  refine ⟨_, (pss_one (ps_ret (pe_tup (pa_cons (pe_tup (pa_cons (pe_ix (r := rIxT K) ix_tup (pv 0) pe_int (fun _ _ => rfl)) (pa_cons (pe_ix (r := rIxT K) ix_tup (pv 0) pe_int (fun _ _ => rfl)) pa_nil))) (pa_cons (pe_tup (pa_cons (pe_ix (r := rIxT K) ix_tup (pv 0) pe_int (fun _ _ => rfl)) (pa_cons (pe_ix (r := rIxT K) ix_tup (pv 0) pe_int (fun _ _ => rfl)) pa_nil))) pa_nil))))), body_P ?_ h⟩
  refine fun ds d r I => ?_
  obtain ⟨x, rfl, rfl⟩ := r
  walk_at "norm"
  exact p_ret (p_tup2 (p_cons (p_tup2 (p_cons (p_i0 (e_var rfl)) (p_cons (p_i0 (e_var rfl)) a_nil))) (p_cons (p_tup2 (p_cons (p_i1 (e_var rfl)) (p_cons (p_i1 (e_var rfl)) a_nil))) a_nil)))
theorem fok_leaf_of (Tp : Top K mg base) : FnOk P w K mg base CX0 1 Tp.f_leaf_of Tp.d_leaf_of ["name", "ends"] (spP K RLeaf) := by
  refine Tp.F_leaf_of.ok sc_leaf_of (fun vs H Q E h => len_P (fun _ _ ⟨_, _, e, _⟩ => by rw [e]; rfl) h) (fun cdv A outer s H vs Q E hr h => ?_)
  refine ⟨_, (pss_one (ps_ret (pe_tup (pa_cons (pv 1) (pa_cons pe_int (pa_cons (pv 0) (pa_cons (pe_tup pa_nil) pa_nil))))))), body_P ?_ h⟩
  refine fun ds d r I => ?_
  obtain ⟨n, e, rfl, rfl⟩ := r
  walk_at "norm"
  exact p_ret (p_tup (ds := [.d (enD e), .i 1, .i n, .t []]) (p_cons (e_var rfl) (p_cons e_int (p_cons (e_var rfl) (p_cons (p_tup (ds := []) (xs := []) a_nil .nil (by decide)) a_nil)))) (.cons (.cons (.cons (.cons .nil)))) (show 4 ≤ 100000 by decide))
theorem fok_nodes_from (Tp : Top K mg base) : FnOk P w K mg base CX0 1 Tp.f_nodes_from Tp.d_nodes_from ["top"] (spM K noT (RFrom K)) := by
  refine Tp.F_nodes_from.ok sc_nodes_from (fun vs H Q E h => len_M (fun _ _ _ ⟨_, e, _⟩ => by rw [e]; rfl) h) (fun cdv A outer s H vs Q E hr h => ?_)
  refine ⟨_, (pss_cons (ps_if (pt_cmpR op_isN (pv 0) pe_non (nomark _)) (pss_one (ps_ret (pe_lst pa_nil))) pss_nil)
      (pss_one (ps_ret (pe_lst (pa_cons (pv 0) pa_nil))))), body_M ?_ h⟩
  refine fun ds Z Po r J hT ap => ?_
  obtain ⟨o, rfl, rfl, rfl⟩ := r
  walk_at "norm"
  cases o with
  | none => exact s_stopP (s_ifT (t_is (p_test (e_isN (x := .none) (e_var rfl) e_non)) rfl) (s_retL (xs := []) a_nil (by decide) fun q => ⟨q, rfl, rfl⟩))
  | some t =>
    obtain ⟨nt, ct, et⟩ := nd_tup t
    refine q_skip (p_test (e_isN (x := .tuple [enD t.en, .int (t.ht : Nat), nt, ct]) (e_var (by show some (some (Dat.d (ndD t))) = _; rw [et])) e_non)) rfl ?_
    exact s_retL (xs := [ndD t]) (p_cons (e_var rfl) a_nil) (show 1 ≤ 100000 by decide) fun q => ⟨q, rfl, rfl⟩
theorem fok_check_unused (Tp : Top K mg base) : FnOk P w K mg base (L2.CX P w) 1 Tp.f_check_unused Tp.d_check_unused ["boxes", "name"] (spQ K noT (RUnused K)) := by
  refine Tp.F_check_unused.okX sc_check_unused (fun vs H Q E h => len_Q (fun _ _ _ ⟨_, _, _, e, _⟩ => by rw [e]; rfl) h) (fun cdv A outer s H vs Q E hr h => ?_)
  refine ⟨_, (pss_one (ps_if (PW.pt (pw_or (pt_cmpR op_lt (pv 1) pe_int (nomark _)) (pw_or1 (pt_cmp (pc_din (hu_of hr) (pv 1) (pv 0)) rfl)))) (pss_one (ps_raise rfl (takes_of rfl rfl rfl rfl) (pmk_own PySem.F.excBase_ValueError Tp.xc_IdError Tp.gc_IdError Tp.kc_IdError (raises_own Tp.bc_IdError Tp.tc_IdError) rfl))) pss_nil)), body_QV ?_ h⟩
  refine fun ds Z d r => ?_
  obtain ⟨q, kvs, n, rfl, rfl, h0, hn, rfl⟩ := r
  refine ⟨rfl, fun I hT hZ => ⟨[some (.r q), some (.i n)], ?_⟩⟩
  walk_at "norm"
  exact q_ifF (t_or (p_test (p_lt (i := n) (j := 0) (e_var rfl) e_int)) fun _ => t_test (e_kInM (e_var rfl) (e_var rfl) hZ)) (by rw [hn, decide_eq_false (by omega)]; rfl) s_next
theorem fok_check_used (Tp : Top K mg base) : FnOk P w K mg base (L2.CX P w) 1 Tp.f_check_used Tp.d_check_used ["boxes", "name"] (spQ K noT (RUsed K)) := by
  refine Tp.F_check_used.okX sc_check_used (fun vs H Q E h => len_Q (fun _ _ _ ⟨_, _, _, _, e, _⟩ => by rw [e]; rfl) h) (fun cdv A outer s H vs Q E hr h => ?_)
  refine ⟨_, (pss_one (ps_if (pt_cmp (pc_dnotin (hu_of hr) (pv 1) (pv 0)) rfl) (pss_one (ps_raise rfl (takes_of rfl rfl rfl rfl) (pmk_own PySem.F.excBase_ValueError Tp.xc_IdError Tp.gc_IdError Tp.kc_IdError (raises_own Tp.bc_IdError Tp.tc_IdError) rfl))) pss_nil)), body_QV ?_ h⟩
  refine fun ds Z d r => ?_
  obtain ⟨q, kvs, n, x, rfl, rfl, hn, rfl⟩ := r
  refine ⟨rfl, fun I hT hZ => ⟨[some (.r q), some (.i n)], ?_⟩⟩
  walk_at "norm"
  exact q_ifF (t_test (e_kNotM (e_var rfl) (e_var rfl) hZ)) (by rw [hn]; rfl) s_next
theorem fok_Broad_init (Tp : Top K mg base) : FnOk P w K mg base CX0 1 Tp.f_Broad_init Tp.d_Broad_init ["self"] (spM K noT (RInitO K Tp.C_Broad (IsB K Tp.C_Broad))) := by
  refine Tp.F_Broad_init.ok sc_Broad_init (fun vs H Q E h => len_M (fun _ _ _ ⟨_, e, _⟩ => by rw [e]; rfl) h) (fun cdv A outer s H vs Q E hr h => ?_)
  refine ⟨_, (pss_cons (ps_fld (pv 0) pe_dnewK rfl)
      (pss_cons (ps_fld (pv 0) pe_dnewK rfl)
      (pss_one (ps_fld (pv 0) pe_dnewK rfl)))), body_V ?_ h⟩
  refine fun ds Z Po r J hT apJ => ?_
  obtain ⟨a, rfl, rfl, rfl⟩ := r
  walk_at "norm"
  have nfa : ¬ J.foot a := apJ a ⟨_, List.mem_cons_self, rfl⟩
  refine s_seqNE (s_fldNewE (P := fun ρ L => ∃ p, p ≠ a ∧ ¬ J.foot p ∧ ρ = [some (.r a)] ∧ L = (cA [insC K Tp.C_Broad a [("boxes", .r p)], dicC K p []]).and J) Tp.cl_Broad Tp.na_Broad_boxes rfl List.mem_cons_self (by decide) nfa fun p np1 np2 => ⟨[insC K Tp.C_Broad a [("boxes", .r p)], dicC K p []], fun c hc => ?_, p, fun z => np1 ⟨_, List.mem_cons_self, z⟩, np2, rfl, rfl⟩) fun ρ L ⟨p, ne, np, e1, e2⟩ => ?_
  · rcases List.mem_cons.mp hc with rfl | hc
    · exact .inr (.inl rfl)
    · rw [List.mem_singleton.mp hc]
      exact .inl ⟨rfl, fun G => ⟨[], rfl, rfl, .nil⟩⟩
  subst e1 e2
  refine s_seqNE (s_fldNewE (P := fun ρ L => ∃ p2, p2 ≠ a ∧ p2 ≠ p ∧ ¬ J.foot p2 ∧ ρ = [some (.r a)] ∧ L = (cA [insC K Tp.C_Broad a [("boxes", .r p), ("ends", .r p2)], dicC K p [], dicC K p2 []]).and J) Tp.cl_Broad Tp.na_Broad_ends rfl List.mem_cons_self (show 1 < 1000 by decide) nfa fun p2 np1 np2 => ⟨[insC K Tp.C_Broad a [("boxes", .r p), ("ends", .r p2)], dicC K p [], dicC K p2 []], fun c hc => ?_, p2, fun z => np1 ⟨_, List.mem_cons_self, z⟩, fun z => np1 ⟨_, List.mem_cons_of_mem _ List.mem_cons_self, z⟩, np2, rfl, rfl⟩) fun ρ L ⟨p2, ne2, ne3, np2, e1, e2⟩ => ?_
  · rcases List.mem_cons.mp hc with rfl | hc
    · exact .inr (.inl rfl)
    rcases List.mem_cons.mp hc with rfl | hc
    · exact .inr (.inr ⟨ne, List.mem_cons_of_mem _ List.mem_cons_self⟩)
    · rw [List.mem_singleton.mp hc]
      exact .inl ⟨rfl, fun G => ⟨[], rfl, rfl, .nil⟩⟩
  subst e1 e2
  refine s_fldNewE Tp.cl_Broad Tp.na_Broad_partners rfl List.mem_cons_self (show 2 < 1000 by decide) nfa fun p3 np1 np3 => ⟨bCs K Tp.C_Broad a p p2 p3 [] [], fun c hc => ?_, ?_⟩
  · rcases b_cases hc with rfl | rfl | rfl | rfl | ⟨e, he, _⟩
    · exact .inr (.inl rfl)
    · exact .inr (.inr ⟨ne, List.mem_cons_of_mem _ List.mem_cons_self⟩)
    · exact .inr (.inr ⟨ne2, List.mem_cons_of_mem _ (List.mem_cons_of_mem _ List.mem_cons_self)⟩)
    · exact .inl ⟨rfl, fun G => rfl⟩
    · cases he
  · have n1 : p3 ≠ a := fun z => np1 ⟨_, List.mem_cons_self, z⟩
    have n2 : p3 ≠ p := fun z => np1 ⟨_, List.mem_cons_of_mem _ List.mem_cons_self, z⟩
    have n3 : p3 ≠ p2 := fun z => np1 ⟨_, List.mem_cons_of_mem _ (List.mem_cons_of_mem _ List.mem_cons_self), z⟩
    refine ⟨cA (bCs K Tp.C_Broad a p p2 p3 [] []), ⟨rfl, p, p2, p3, [], bok_nil ?_, rfl⟩, b_apart nfa np np2 np3 fun e z => (by cases z), fun _ _ z => z⟩
    simp only [List.nodup_cons, List.mem_cons, List.not_mem_nil, or_false, not_or, List.nodup_nil, not_false_eq_true, and_true]
    exact ⟨⟨ne.symm, ne2.symm, n1.symm⟩, ⟨ne3.symm, n2.symm⟩, n3.symm⟩
theorem fok_Broad_names (Tp : Top K mg base) : FnOk P w K mg base CX0 1 Tp.f_Broad_names Tp.d_Broad_names ["self"] (spQ K noT (RNames (IsB K Tp.C_Broad))) := by
  refine Tp.F_Broad_names.ok sc_Broad_names (fun vs H Q E h => len_Q (fun _ _ _ ⟨_, _, e, _⟩ => by rw [e]; rfl) h) (fun cdv A outer s H vs Q E hr h => ?_)
  refine ⟨_, (pss_one (ps_ret (pe_callTy call_tuple_of (by rfl) Tp.n_tuple (by decide +kernel) (pa_cons (pe_callB (call_sortedDI rfl) (by rfl) Tp.n_sorted (by decide +kernel) (pa_cons (pe_fld (pv 0) rfl) pa_nil)) pa_nil)))), body_Q ?_ h⟩
  refine fun ds Z d r I hT hZ => ?_
  obtain ⟨q, tb, rfl, ⟨ab, ae, ap, pt, bk, rfl⟩, rfl⟩ := r
  walk_at "norm"
  exact p_ret (e_tupOf (p_cons (e_sortKR (ks := nms tb) (q := ab) (p_cons (e_fldR (fs := [("boxes", .r ab), ("ends", .r ae), ("partners", .r ap)]) Tp.cl_Broad Tp.na_Broad_boxes (e_var (i := 0) rfl) (fun G H z => ca_ins (hZ G H z) b_ins) rfl) a_nil) (fun G H z => k_keys (ca_k (hZ G H z) b_bx)) (by rw [List.length_map]; have := bk.t0.le; omega) (srtI_perm _) (srtI_up _)) a_nil))
theorem fok_Broad_pairs (Tp : Top K mg base) : FnOk P w K mg base CX0 1 Tp.f_Broad_pairs Tp.d_Broad_pairs ["self"] (spQ K noT (RPrs (IsB K Tp.C_Broad))) := by
  refine Tp.F_Broad_pairs.ok sc_Broad_pairs (fun vs H Q E h => len_Q (fun _ _ _ ⟨_, _, e, _⟩ => by rw [e]; rfl) h) (fun cdv A outer s H vs Q E hr h => ?_)
  refine ⟨_, (pss_one (ps_ret (pe_callTy call_tuple_of (by rfl) Tp.n_tuple (by decide +kernel) (pa_cons (pe_lc2 (own := [("one", 1), ("other", 2)]) (vs1 := [2]) (g := (gName 1)) (g1 := (gName 2)) (wi1 := iList K _) (tt := tYes) rfl sc_Broad_pairs.nd (pi_list (pe_callB (call_sortedDI rfl) (by rfl) Tp.n_sorted (by decide +kernel) (pa_cons (pe_fld (pv 0) rfl) pa_nil))) (blkOk_by (N := ["self", "one", "other"]) (sc := defScope s_Broad_pairs) (by decide +kernel)) (by decide) (fun _ _ _ _ _ => (pg_name (i := 1) sc_Broad_pairs.nd rfl (Or.inl rfl))) (fun _ _ _ _ _ => pts_nil) (fun _ _ _ _ _ => (pi_list (pe_callB (call_sortedDI rfl) (by rfl) Tp.n_sorted (by decide +kernel) (pa_cons (pe_dget (hu_of hr) (OB.pe_fldK (K := K) rfl (pv 0) (by rfl)) (pv 1) (fun _ _ => rfl)) pa_nil)))) (fun _ _ _ _ _ => (pg_name (i := 2) sc_Broad_pairs.nd rfl (Or.inl rfl))) (fun _ _ _ _ _ => (pts_one (pt_cmpR op_lt (pv 1) (pv 2) (nomark _)))) (fun _ _ _ _ _ => (pe_tup (pa_cons (pv 1) (pa_cons (pv 2) pa_nil))))) pa_nil)))), body_Q ?_ h⟩
  refine fun ds Z d r I hT hZ => ?_
  obtain ⟨q, tb, rfl, ⟨ab, ae, ap, pt, bk, rfl⟩, rfl⟩ := r
  walk_at "norm"
  have ln := bk.t0.le
  have l0 : (srtI (nms tb)).length ≤ 13 := by rw [(srtI_perm _).length_eq, List.length_map]; exact ln
  have li : ∀ i, (srtI (metN tb i)).length ≤ 13 := fun i => by
    rw [(srtI_perm _).length_eq]
    refine Nat.le_trans (met_le _ _) ?_
    rw [List.length_map]
    exact (bk.t0.del i).le
  have rk : ∀ G H, I.ok G H → ∃ kvs, H ap = some (.dK kvs) ∧ kvs.map (·.1) = (nms tb).map Sum.inl := fun G H z => ⟨_, (ca_r (hZ G H z) b_rf).2, by rw [List.map_map, List.map_map, ← bk.nm, List.map_map]; rfl⟩
  refine p_ret (e_tupOf (p_cons (e_is (e_lc2V (m := fun i => (srtI (metN tb ((srtI (nms tb)).getD i 0))).length) (ys := fun i => at0 ((srtI (metN tb ((srtI (nms tb)).getD i 0))).map PyData.int)) (b := fun i j => decide ((srtI (nms tb)).getD i 0 < (srtI (metN tb ((srtI (nms tb)).getD i 0))).getD j 0)) (e := fun i j => iiD ((srtI (nms tb)).getD i 0, (srtI (metN tb ((srtI (nms tb)).getD i 0))).getD j 0)) (iw_l (ds := (srtI (nms tb)).map PyData.int) (e_sortKR (ks := nms tb) (q := ap) (p_cons (e_fldR (fs := [("boxes", .r ab), ("ends", .r ae), ("partners", .r ap)]) Tp.cl_Broad Tp.na_Broad_partners (e_var (i := 0) rfl) (fun G H z => ca_ins (hZ G H z) b_ins) rfl) a_nil) rk (by rw [List.length_map]; omega) (srtI_perm _) (srtI_up _))) (by rw [List.length_map]; omega) (fun i _ => by have := li ((srtI (nms tb)).getD i 0); omega) fun i hi => ?_) ?_) a_nil))
  · rw [List.length_map] at hi
    have hx : (srtI (nms tb))[i]? = some ((srtI (nms tb))[i]) := List.getElem?_eq_getElem hi
    have hg : (srtI (nms tb)).getD i 0 = (srtI (nms tb))[i] := by rw [List.getD_eq_getElem?_getD, hx]; rfl
    rw [at0_map (f := PyData.int) hx, hg]
    have hn : (srtI (nms tb))[i] ∈ nms tb := (srtI_perm _).mem_iff.mp (List.getElem_mem hi)
    obtain ⟨a, ks, hm, hp⟩ := bk.get hn
    generalize (srtI (nms tb))[i] = one at *
    have lk := li one
    refine ⟨_, w_name (by decide), fun I' hI' => ?_, fun j hj => ?_⟩
    · have z := iw_l (K := K) (ρ := [some (.r q), some (.i one), none]) (I := I') (J := I') (ds := (srtI (metN tb one)).map PyData.int) (e_sortKR (ks := ks) (q := a) (p_cons (e_getR (rs := pt.map ptA) (e_fldR (fs := [("boxes", .r ab), ("ends", .r ae), ("partners", .r ap)]) Tp.cl_Broad Tp.na_Broad_partners (e_var (i := 0) rfl) (fun G H z => ca_ins (hZ G H (hI' G H z)) b_ins) rfl) (e_var (i := 1) rfl) (fun G H z => (ca_r (hZ G H (hI' G H z)) b_rf).2) (rf_mem hm) (rf_nd bk.nd)) a_nil) (fun G H z => ?_) (by rw [hp.length_eq]; rw [(srtI_perm _).length_eq] at lk; omega) ((srtI_perm _).trans hp.symm) (srtI_up _))
      · rw [List.length_map] at z
        exact z
      · obtain ⟨g, vs, h1, h2⟩ := ca_k (hZ G H (hI' G H z)) (b_pt hm)
        exact ⟨vs, h1, h2.1.trans (key_keys ks)⟩
    · have hy : (srtI (metN tb one))[j]? = some ((srtI (metN tb one))[j]) := List.getElem?_eq_getElem hj
      have hg2 : (srtI (metN tb one)).getD j 0 = (srtI (metN tb one))[j] := by rw [List.getD_eq_getElem?_getD, hy]; rfl
      rw [at0_map (f := PyData.int) hy, hg2]
      generalize (srtI (metN tb one))[j] = other at *
      exact ⟨_, w_name (by decide), fun I' => p_test (p_lt (e_var rfl) (e_var rfl)), fun _ I' => p_tup2 (p_cons (e_var rfl) (p_cons (e_var rfl) a_nil))⟩
  · congr 2
    rw [show ((srtI (nms tb)).map PyData.int).length = (srtI (nms tb)).length by rw [List.length_map]]
    rw [rowsK_of (xs := srtI (nms tb)) (F := fun i => (((srtI (metN tb i)).filter fun m => decide (i < m)).map fun m => iiD (i, m))) fun i x hx => ?_]
    · unfold prsF
      rw [List.map_flatMap]
      congr 1
      funext i
      rw [List.map_map]
      rfl
    · have hg : (srtI (nms tb)).getD i 0 = x := by rw [List.getD_eq_getElem?_getD, hx]; rfl
      rw [hg]
      exact rowK_of (xs := srtI (metN tb x)) (p := fun m => decide (x < m)) (f := fun m => iiD (x, m)) fun j y hy => by
        have hg2 : (srtI (metN tb x)).getD j 0 = y := by rw [List.getD_eq_getElem?_getD, hy]; rfl
        rw [hg2]
        exact ⟨rfl, rfl⟩
theorem fok_Broad_take (Tp : Top K mg base) : FnOk P w K mg base CX0 1 Tp.f_Broad_take Tp.d_Broad_take ["self", "name"] (spM K Tp.tabs (RTake (IsB K Tp.C_Broad))) := by
  refine Tp.F_Broad_take.ok sc_Broad_take (fun vs H Q E h => len_M (fun _ _ _ ⟨_, _, _, e, _⟩ => by rw [e]; rfl) h) (fun cdv A outer s H vs Q E hr h => ?_)
  refine ⟨_, (pss_cons (ps_for PassesOwn.never rfl (pi_list (pe_callTy (call_list_dK (by rfl)) (by rfl) Tp.n_list (by decide +kernel) (pa_cons (pe_dget (hu_of hr) (pe_fld (pv 0) rfl) (pv 1) (fun _ _ => rfl)) pa_nil))) (pg_name (i := 2) sc_Broad_take.nd rfl (.inl rfl)) (pss_one (ps_ddel (pe_dget (hu_of hr) (pe_fld (pv 0) rfl) (pv 2) (fun _ _ => rfl)) (pv 1))))
      (pss_cons (ps_ddel (pe_fld (pv 0) rfl) (pv 1))
      (pss_cons (ps_ddel (pe_fld (pv 0) rfl) (pv 1))
      (pss_one (ps_ddel (pe_fld (pv 0) rfl) (pv 1)))))), body_V ?_ h⟩
  refine fun ds Z Po r J hT apJ => ?_
  obtain ⟨q, n, tb, rfl, ⟨ab, ae, ap, pt, bk, rfl⟩, hn, rfl⟩ := r
  walk_at "norm"
  obtain ⟨fq, fab, fae, fap, fpt⟩ := b_foot apJ
  have ad := ad_of bk.ad
  obtain ⟨an, ks, hen, hkp⟩ := bk.get hn
  obtain ⟨b, hb⟩ := has_bx hn
  have nk : ks.Nodup := (hkp.nodup_iff).mpr (met_nd (bk.t0.del n).nd _)
  have ksn : ∀ m ∈ ks, m ∈ nms tb ∧ m ≠ n := fun m hm => metN_sub (hkp.mem_iff.mp hm)
  have hr : PL.E K (tCB rListD (tCons (tDGet (tFld K (tVar 0) "partners") (tVar 1)) tNil)) [some (.r q), some (.i n), none] ((cA (bCs K Tp.C_Broad q ab ae ap tb pt)).and J) (.d (.list (ks.map PyData.int))) ((cA (bCs K Tp.C_Broad q ab ae ap tb pt)).and J) :=
    e_listKR (q := an) (p_cons (e_getR (a := ap) (rs := pt.map ptA) (e_fldR (fs := [("boxes", .r ab), ("ends", .r ae), ("partners", .r ap)]) Tp.cl_Broad Tp.na_Broad_partners (e_var (i := 0) rfl) (fun G H z => ca_ins z.1 b_ins) rfl) (e_var (i := 1) rfl) (fun G H z => (ca_r z.1 b_rf).2) (rf_mem hen) (rf_nd bk.nd)) a_nil) fun G H z => by
      obtain ⟨g, vs, h1, h2⟩ := ca_k z.1 (b_pt hen)
      exact ⟨vs, h1, h2.1.trans (key_keys ks)⟩
  refine s_seq (s_forL (ds := ks.map PyData.int) (fun _ => [some (.r q), some (.i n), none]) (fun i => (cA (bCs K Tp.C_Broad q ab ae ap tb (updF (ks.take i) (fun l => l.filter fun k => decide (k ≠ n)) pt))).and J) hr rfl fun i x hx => ?_) ?_
  · rw [List.getElem?_map, Option.map_eq_some_iff] at hx
    obtain ⟨m, hm, rfl⟩ := hx
    have mk : m ∈ ks := List.mem_of_getElem? hm
    refine s_lessN (ρ' := [some (.r q), some (.i n), some (.i m)]) ⟨.inr rfl, .inr rfl, .inl rfl, trivial⟩ ?_
    have eT : ks.take (i + 1) = ks.take i ++ [m] := by rw [List.take_add_one, hm]; rfl
    rw [eT, updF_snoc]
    obtain ⟨c1, c2⟩ := ptA_1 (updF_A (fun l => l.filter fun k => decide (k ≠ n)) (ks.take i) pt)
    obtain ⟨a, l, hmem, hpm⟩ := bk.get (ksn m mk).1
    have nti : m ∉ ks.take i := fun z => by
      obtain ⟨j, hj, e⟩ := List.mem_take_iff_getElem.mp z
      have hi2 : i < ks.length := (List.getElem?_eq_some_iff.mp hm).1
      have e2 : ks[i] = m := (List.getElem?_eq_some_iff.mp hm).2
      have := (List.getElem_inj (h₀ := by omega) (h₁ := hi2) nk).mp (e.trans e2.symm)
      omega
    have hmem2 : (m, a, l) ∈ updF (ks.take i) (fun l => l.filter fun k => decide (k ≠ n)) pt := by
      rw [updF_eq _ (nk.sublist (List.take_sublist _ _))]
      exact List.mem_map.mpr ⟨_, hmem, if_neg nti⟩
    have nl : n ∈ l := hpm.mem_iff.mpr (metN_sym bk.t0 hn (hkp.mem_iff.mp mk))
    have ad2 : Ad (updF (ks.take i) (fun l => l.filter fun k => decide (k ≠ n)) pt) q ab ae ap := ad_of (by rw [c2]; exact bk.ad)
    have nd2 : ((updF (ks.take i) (fun l => l.filter fun k => decide (k ≠ n)) pt).map (·.1)).Nodup := by rw [c1]; exact bk.nd
    generalize updF (ks.take i) (fun l => l.filter fun k => decide (k ≠ n)) pt = pti at *
    have fa : ¬ J.foot a := fpt _ hmem
    refine s_delC (cs' := bCs K Tp.C_Broad q ab ae ap tb (upd1 m (fun l => l.filter fun k => decide (k ≠ n)) pti)) (a := a) (kvs := keyD l) (e_getR (a := ap) (rs := pti.map ptA) (e_fldR (fs := [("boxes", .r ab), ("ends", .r ae), ("partners", .r ap)]) Tp.cl_Broad Tp.na_Broad_partners (e_var (i := 0) rfl) (fun G H z => ca_ins z.1 b_ins) rfl) (e_var (i := 2) rfl) (fun G H z => (ca_r z.1 b_rf).2) (rf_mem hmem2) (rf_nd nd2)) (e_var rfl) (b_pt (e := (m, a, l)) hmem2) (key_has nl) fa fun c hc => ?_
    rw [key_drop]
    exact b_upd (e := (m, a, l)) ad2 nd2 hmem2 c hc
  rw [List.length_map, List.take_length]
  obtain ⟨c1, c2⟩ := ptA_1 (updF_A (fun l => l.filter fun k => decide (k ≠ n)) ks pt)
  have hA := updF_A (fun l => l.filter fun k => decide (k ≠ n)) ks pt
  have ad2 : Ad (updF ks (fun l => l.filter fun k => decide (k ≠ n)) pt) q ab ae ap := ad_of (by rw [c2]; exact bk.ad)
  have nd2 : ((updF ks (fun l => l.filter fun k => decide (k ≠ n)) pt).map (·.1)).Nodup := by rw [c1]; exact bk.nd
  have fpt2 : ∀ e ∈ updF ks (fun l => l.filter fun k => decide (k ≠ n)) pt, ¬ J.foot e.2.1 := fun e he => by
    have m : e.2.1 ∈ pt.map (·.2.1) := by rw [← c2]; exact List.mem_map.mpr ⟨e, he, rfl⟩
    obtain ⟨e0, h0, e1⟩ := List.mem_map.mp m
    rw [← e1]
    exact fpt e0 h0
  have bk2 := bk.take hen
  have rm : (n, an) ∈ (updF ks (fun l => l.filter fun k => decide (k ≠ n)) pt).map ptA := by rw [hA]; exact rf_mem hen
  have ad3 := ad_of bk2.ad
  generalize updF ks (fun l => l.filter fun k => decide (k ≠ n)) pt = pt2 at *
  have fl : (pt2.map ptA).filter (fun z => decide (z.1 ≠ n)) = (pt2.filter fun e => decide (e.1 ≠ n)).map ptA := by rw [List.filter_map]; rfl
  refine s_seq (s_delR (cs' := bC2 K Tp.C_Broad q ab ae ap tb tb (pt2.filter fun e => decide (e.1 ≠ n))) (a := ap) (n := n) (p := an) (rs := pt2.map ptA) (e_fldR (fs := [("boxes", .r ab), ("ends", .r ae), ("partners", .r ap)]) Tp.cl_Broad Tp.na_Broad_partners (e_var (i := 0) rfl) (fun G H z => ca_ins z.1 b_ins) rfl) (e_var (i := 1) rfl) b_rf rm (rf_nd nd2) fap fun c hc => ?_) ?_
  · rw [fl]
    rcases b2_cases hc with rfl | rfl | rfl | rfl | ⟨e, he, rfl⟩
    · exact .inr ⟨ad2.qp, b_ins⟩
    · exact .inr ⟨ad2.bp, b_bx⟩
    · exact .inr ⟨ad2.ep, b_en⟩
    · exact .inl rfl
    · have he2 := (List.mem_filter.mp he).1
      exact .inr ⟨(ad2.pq e he2).2.2.2, b_pt he2⟩
  have hfe : ∀ e ∈ pt2.filter (fun e => decide (e.1 ≠ n)), ¬ J.foot e.2.1 := fun e he => fpt2 e (List.mem_filter.mp he).1
  generalize pt2.filter (fun e => decide (e.1 ≠ n)) = pt3 at *
  have hv := val_bx bk.t0.nd hb
  refine s_seq (s_delC (cs' := bC2 K Tp.C_Broad q ab ae ap (delT tb n) tb pt3) (a := ab) (kvs := bxsD tb) (e_fldR (fs := [("boxes", .r ab), ("ends", .r ae), ("partners", .r ap)]) Tp.cl_Broad Tp.na_Broad_boxes (e_var (i := 0) rfl) (fun G H z => ca_ins z.1 b2_ins) rfl) (e_var (i := 1) rfl) b2_bx (by rw [hv]; rfl) fab (by rw [drop_bx]; exact b2_1 ad3)) ?_
  exact s_endM (Y := cA (bCs K Tp.C_Broad q ab ae ap (delT tb n) pt3)) (s_delC (cs' := bC2 K Tp.C_Broad q ab ae ap (delT tb n) (delT tb n) pt3) (a := ae) (kvs := ensD tb) (e_fldR (fs := [("boxes", .r ab), ("ends", .r ae), ("partners", .r ap)]) Tp.cl_Broad Tp.na_Broad_ends (e_var (i := 0) rfl) (fun G H z => ca_ins z.1 b2_ins) rfl) (e_var (i := 1) rfl) b2_en (val_en hn) fae (by rw [drop_en]; exact b2_2 ad3)) ⟨rfl, ab, ae, ap, _, bk2, rfl⟩ (b_apart fq fab fae fap hfe)
theorem fok_Tree_init (Tp : Top K mg base) : FnOk P w K mg base CX0 1 Tp.f_Tree_init Tp.d_Tree_init ["self"] (spM K noT (RInitO K Tp.C_Tree (IsT K Tp.C_Tree))) := by
  refine Tp.F_Tree_init.ok sc_Tree_init (fun vs H Q E h => len_M (fun _ _ _ ⟨_, e, _⟩ => by rw [e]; rfl) h) (fun cdv A outer s H vs Q E hr h => ?_)
  refine ⟨_, (pss_cons (ps_fld (pv 0) pe_dnewK rfl)
      (pss_one (ps_fld (pv 0) pe_non rfl))), body_V ?_ h⟩
  refine fun ds Z Po r J hT ap => ?_
  obtain ⟨a, rfl, rfl, rfl⟩ := r
  walk_at "norm"
  have nfa : ¬ J.foot a := ap a ⟨_, List.mem_cons_self, rfl⟩
  refine s_seqNE (s_fldNewE (P := fun ρ L => ∃ p, p ≠ a ∧ ¬ J.foot p ∧ ρ = [some (.r a)] ∧ L = (cA [insC K Tp.C_Tree a [("_boxes", .r p)], dicC K p []]).and J) Tp.cl_Tree Tp.na_Tree__boxes rfl List.mem_cons_self (by decide) nfa fun p np1 np2 => ⟨[insC K Tp.C_Tree a [("_boxes", .r p)], dicC K p []], fun c hc => ?_, p, fun z => np1 ⟨_, List.mem_cons_self, z⟩, np2, rfl, rfl⟩) fun ρ L ⟨p, ne, np, e1, e2⟩ => ?_
  · rcases List.mem_cons.mp hc with rfl | hc
    · exact .inr (.inl rfl)
    · rw [List.mem_singleton.mp hc]
      exact .inl ⟨rfl, fun G => ⟨[], rfl, rfl, .nil⟩⟩
  · subst e1 e2
    refine s_endM (Y := cA (tCs K Tp.C_Tree a p [] none)) (s_fldC (d := .d .none) Tp.cl_Tree Tp.na_Tree__top e_non rfl List.mem_cons_self (show 1 < 1000 by decide) nfa fun c hc => ?_) ⟨rfl, p, none, ne.symm, tok_nil, rfl⟩ (t_apart nfa np)
    rcases List.mem_cons.mp hc with rfl | hc
    · exact .inl rfl
    · rw [List.mem_singleton.mp hc]
      exact .inr ⟨ne, List.mem_cons_of_mem _ List.mem_cons_self⟩
theorem fok_Tree_names (Tp : Top K mg base) : FnOk P w K mg base CX0 1 Tp.f_Tree_names Tp.d_Tree_names ["self"] (spQ K noT (RNames (IsT K Tp.C_Tree))) := by
  refine Tp.F_Tree_names.ok sc_Tree_names (fun vs H Q E h => len_Q (fun _ _ _ ⟨_, _, e, _⟩ => by rw [e]; rfl) h) (fun cdv A outer s H vs Q E hr h => ?_)
  refine ⟨_, (pss_one (ps_ret (pe_callTy call_tuple_of (by rfl) Tp.n_tuple (by decide +kernel) (pa_cons (pe_callB (call_sortedDI rfl) (by rfl) Tp.n_sorted (by decide +kernel) (pa_cons (pe_fld (pv 0) rfl) pa_nil)) pa_nil)))), body_Q ?_ h⟩
  refine fun ds Z d r I hT hZ => ?_
  obtain ⟨q, tb, rfl, ⟨ab, top, ne, tk, rfl⟩, rfl⟩ := r
  walk_at "norm"
  exact p_ret (e_tupOf (p_cons (e_sortKR (ks := nms tb) (q := ab) (p_cons (e_fldR (fs := [("_boxes", .r ab), ("_top", .d (topD top))]) Tp.cl_Tree Tp.na_Tree__boxes (e_var (i := 0) rfl) (fun G H z => ca_ins (hZ G H z) t_ins) rfl) a_nil) (fun G H z => k_keys (ca_k (hZ G H z) t_dic)) (by rw [List.length_map]; have := tk.t0.le; omega) (srtI_perm _) (srtI_up _)) a_nil))
theorem fok_law_begin (Tp : Top K mg base) : FnOk P w K mg base CX0 1 Tp.f_law_begin Tp.d_law_begin ["script"] (spBegin K) := by
  refine Tp.F_law_begin.ok sc_law_begin (fun vs H Q E h => by obtain ⟨_, _, _, e, _⟩ := h; rw [e]; rfl) (fun cdv A outer s H vs Q E hr h => ?_)
  refine ⟨_, (pss_cons (ps_set (i := 1) sc_law_begin.nd rfl (.inl rfl) pe_int)
      (pss_cons (ps_for PassesOwn.never rfl (pi_list (pv 0)) (pg_name (i := 2) sc_law_begin.nd rfl (.inl rfl)) (pss_one (ps_set (i := 1) sc_law_begin.nd rfl (.inl rfl) (pe_op op_mod (pe_op op_add (pe_op op_add (pe_op op_mulW (pv 1) pe_int) (pe_op op_mod (pe_callTy call_int1 (by rfl) Tp.n_int (by decide +kernel) (pa_cons (pv 2) pa_nil)) pe_int)) pe_int) pe_int))))
      (pss_one (ps_ret (pe_lst (pa_cons (pe_callTy call_list_of (by rfl) Tp.n_list (by decide +kernel) (pa_cons (pv 0) pa_nil)) (pa_cons pe_int (pa_cons pe_int (pa_cons (pv 1) pa_nil))))))))), body_beg ?_ h⟩
  refine fun ns G0 H0 => ?_
  walk_at "norm"
  refine q_asg (d := .i 1) (by walk_at "ev") ?_
  refine s_seq (ρ1 := [some (.d (.list (ns.map PyData.int))), some (.i (seedAt ns ns.length)), none]) (J := .since NoA G0 H0) ?_ ?_
  · have z := s_forL (K := K) (ts := ?_) (tl := tVar 0) (I := .since NoA G0 H0) (ds := ns.map PyData.int) (j := 2) (fun i => [some (.d (.list (ns.map PyData.int))), some (.i (seedAt ns i)), none]) (fun _ => .since NoA G0 H0) (e_var rfl) rfl ?_
    · rw [List.length_map] at z
      exact z
    · intro i x hx
      rw [List.getElem?_map, Option.map_eq_some_iff] at hx
      obtain ⟨n, hn, rfl⟩ := hx
      have b := seed_ok ns i
      refine s_lessN (ρ' := [some (.d (.list (ns.map PyData.int))), some (.i (seedAt ns (i + 1))), some (.i n)]) ⟨.inr rfl, .inr rfl, .inl rfl, trivial⟩ ?_
      have e : seedAt ns (i + 1) = (seedAt ns i * 69621 + n % 2147483629 + 7) % 2147483647 := by
        show seedF (seedAt ns i) (ns.getD i 0) = _
        rw [List.getD_eq_getElem?_getD, hn]
        rfl
      rw [e]
      refine p_asg (d := .i ((seedAt ns i * 69621 + n % 2147483629 + 7) % 2147483647)) ?_
      walk_at "ev"
      · exact mulW (m := 32) (n := 32) (by omega) (by decide) (by decide)
      · decide
      · decide
  · exact s_retBeg (seed_ok ns _) (by walk_at "ev")
theorem fok_law_take (Tp : Top K mg base) : FnOk P w K mg base CX0 1 Tp.f_law_take Tp.d_law_take ["d", "many"] (spW K RTake) := by
  refine Tp.F_law_take.ok sc_law_take (fun vs H Q E h => len_W (fun _ _ _ _ ⟨_, e, _⟩ => by rw [e]; rfl) h) (fun cdv A outer s H vs Q E hr h => ?_)
  refine ⟨_, (pss_cons (ps_if (PW.pt (pw_and (pt_cmpR op_eq (pe_ix (r := rIxL K) ix_list (pv 0) pe_int (fun _ _ => rfl)) pe_int (nomark _)) (pw_and1 (pt_cmpR op_lt (pe_ix (r := rIxL K) ix_list (pv 0) pe_int (fun _ _ => rfl)) (pe_callB call_len_seq (by rfl) Tp.n_len (by decide +kernel) (pa_cons (pe_ix (r := rIxL K) ix_list (pv 0) pe_int (fun _ _ => rfl)) pa_nil)) (nomark _))))) (pss_cons (ps_asg (pe_callB call_abs (by rfl) Tp.n_abs (by decide +kernel) (pa_cons (pe_callTy call_int1 (by rfl) Tp.n_int (by decide +kernel) (pa_cons (pe_ix (r := rIxL K) ix_list (pe_ix (r := rIxL K) ix_list (pv 0) pe_int (fun _ _ => rfl)) (pe_ix (r := rIxL K) ix_list (pv 0) pe_int (fun _ _ => rfl)) (fun _ _ => rfl)) pa_nil)) pa_nil)) (pg_sub (pv 0) pe_int set_list))
      (pss_cons (ps_asg (pe_op op_add (pe_ix (r := rIxL K) ix_list (pv 0) pe_int (fun _ _ => rfl)) pe_int) (pg_sub (pv 0) pe_int set_list))
      (pss_one (ps_if (pt_cmpR op_lt (pe_ix (r := rIxL K) ix_list (pv 0) pe_int (fun _ _ => rfl)) (pe_op op_pow pe_int pe_int) (nomark _)) (pss_cons (ps_set (i := 2) sc_law_take.nd rfl (.inl rfl) (pe_callTy call_int1 (by rfl) Tp.n_int (by decide +kernel) (pa_cons (pe_ix (r := rIxL K) ix_list (pv 0) pe_int (fun _ _ => rfl)) pa_nil)))
      (pss_cons (ps_asg pe_int (pg_sub (pv 0) pe_int set_list))
      (pss_one (ps_ret (pe_op op_mod (pv 2) (pv 1)))))) pss_nil)))) pss_nil)
      (pss_cons (ps_if (pt_cmpR op_gt (pe_ix (r := rIxL K) ix_list (pv 0) pe_int (fun _ _ => rfl)) pe_int (nomark _)) (pss_cons (ps_set (i := 3) sc_law_take.nd rfl (.inl rfl) (pe_op op_mod (pe_callTy call_int1 (by rfl) Tp.n_int (by decide +kernel) (pa_cons (pe_ix (r := rIxL K) ix_list (pv 0) pe_int (fun _ _ => rfl)) pa_nil)) (pv 1)))
      (pss_cons (ps_asg (pe_op op_fdivW (pe_callTy call_int1 (by rfl) Tp.n_int (by decide +kernel) (pa_cons (pe_ix (r := rIxL K) ix_list (pv 0) pe_int (fun _ _ => rfl)) pa_nil)) (pv 1)) (pg_sub (pv 0) pe_int set_list))
      (pss_one (ps_ret (pv 3))))) pss_nil)
      (pss_cons (ps_asg (pe_op op_mod (pe_callTy call_int1 (by rfl) Tp.n_int (by decide +kernel) (pa_cons (pe_op op_add (pe_op op_mulW (pe_ix (r := rIxL K) ix_list (pv 0) pe_int (fun _ _ => rfl)) pe_int) pe_int) pa_nil)) pe_int) (pg_sub (pv 0) pe_int set_list))
      (pss_one (ps_ret (pe_op op_mod (pe_callTy call_int1 (by rfl) Tp.n_int (by decide +kernel) (pa_cons (pe_op op_fdivW (pe_ix (r := rIxL K) ix_list (pv 0) pe_int (fun _ _ => rfl)) pe_int) pa_nil)) (pv 1))))))), body_W ?_ h⟩
  refine fun ds C d C' r p J hf => ?_
  obtain ⟨m, rfl, ok, hm, hz, rfl, rfl⟩ := r
  walk_at "norm"
  have dm : ∀ i : Int, CDivW i m := fun i => divW hm hz (by decide)
  by_cases c1 : C.rest = 0 ∧ C.pos < C.ns.length
  · have e1 : (C.ns.map PyData.int)[C.pos]? = some (.int (C.ns.getD C.pos 0)) := by
      rw [List.getElem?_map, List.getElem?_eq_getElem c1.2, List.getD_eq_getElem?_getD, List.getElem?_eq_getElem c1.2]
      rfl
    generalize hx : ((C.ns.getD C.pos 0).natAbs : Int) = x
    have hx0 : 0 ≤ x := by omega
    by_cases c2 : x < 10 ^ 18
    · have e : take C m = (x % m, { C with pos := C.pos + 1, rest := 0 }) := by
        unfold take
        rw [if_pos c1, hx, if_pos c2]
      rw [e]
      refine s_stop (s_ifT (t_andT (t_is (p_test (p_eqI (i := C.rest) (j := 0) (d_ix2 (e_var rfl)) e_int)) (decide_eq_true c1.1)) (t_is (p_test (p_lt (i := (C.pos : Nat)) (j := ((C.ns.map PyData.int).length : Nat)) (d_ix1 (e_var rfl)) (p_len (p_cons (d_ix0 (e_var rfl)) a_nil)))) (decide_eq_true (by rw [List.length_map]; omega)))) ?_)
      refine s_seq (d_set2 (x := x) (e_is (p_abs (i := C.ns.getD C.pos 0) (p_cons (p_int1 (p_cons (e_ixL (j := C.pos) (d_ix0 (e_var rfl)) (d_ix1 (e_var rfl)) e1) a_nil)) a_nil)) (by rw [hx])) (e_var rfl) hf) ?_
      refine s_seq (d_set1 (n := C.pos + 1) (x := (C.pos : Int) + 1) (by walk_at "ev") rfl (e_var rfl) hf) ?_
      refine q_ifT (p_test (p_lt (i := x) (j := 10 ^ (18 : Int).toNat) (d_ix2 (e_var rfl)) (p_pow e_int e_int ⟨by decide, by decide, by decide⟩))) (decide_eq_true c2) ?_
      refine q_asg (d := .i x) (p_int1 (p_cons (d_ix2 (e_var rfl)) a_nil)) ?_
      refine s_seq (d_set2 (x := 0) e_int (e_var rfl) hf) ?_
      refine p_ret ?_
      walk_at "ev"
      exact hm
    · have e : take C m = take1 { C with pos := C.pos + 1, rest := x } m := by
        unfold take
        rw [if_pos c1, hx, if_neg c2]
      rw [e]
      have xp : 0 < x := by
        have : (0 : Int) < 10 ^ 18 := by decide
        omega
      refine s_seq (ρ1 := [some (.r p), some (.i m), none, none]) (J := dJ K p { C with pos := C.pos + 1, rest := x } J) (s_ifT (t_andT (t_is (p_test (p_eqI (i := C.rest) (j := 0) (d_ix2 (e_var rfl)) e_int)) (decide_eq_true c1.1)) (t_is (p_test (p_lt (i := (C.pos : Nat)) (j := ((C.ns.map PyData.int).length : Nat)) (d_ix1 (e_var rfl)) (p_len (p_cons (d_ix0 (e_var rfl)) a_nil)))) (decide_eq_true (by rw [List.length_map]; omega)))) ?_) ?_
      · refine s_seq (d_set2 (x := x) (e_is (p_abs (i := C.ns.getD C.pos 0) (p_cons (p_int1 (p_cons (e_ixL (j := C.pos) (d_ix0 (e_var rfl)) (d_ix1 (e_var rfl)) e1) a_nil)) a_nil)) (by rw [hx])) (e_var rfl) hf) ?_
        refine s_seq (d_set1 (n := C.pos + 1) (x := (C.pos : Int) + 1) (by walk_at "ev") rfl (e_var rfl) hf) ?_
        exact q_ifF (p_test (p_lt (i := x) (j := 10 ^ (18 : Int).toNat) (d_ix2 (e_var rfl)) (p_pow e_int e_int ⟨by decide, by decide, by decide⟩))) (decide_eq_false c2) s_next
      · have e2 : take1 { C with pos := C.pos + 1, rest := x } m = (x % m, { C with pos := C.pos + 1, rest := x / m }) := by
          unfold take1
          exact if_pos xp
        rw [e2]
        refine s_stop (q_ifT (p_test (p_gt (i := x) (j := 0) (d_ix2 (e_var rfl)) e_int)) (decide_eq_true xp) ?_)
        refine q_asg (d := .i (x % m)) (p_mod (p_int1 (p_cons (d_ix2 (e_var rfl)) a_nil)) (e_var rfl) hm) ?_
        refine s_seq (d_set2 (x := x / m) (p_div (p_int1 (p_cons (d_ix2 (e_var rfl)) a_nil)) (e_var rfl) (dm x)) (e_var rfl) hf) ?_
        exact p_ret (e_var rfl)
  · have e : take C m = take1 C m := by
      unfold take
      rw [if_neg c1]
    rw [e]
    refine s_seq (ρ1 := [some (.r p), some (.i m), none, none]) (J := dJ K p C J) (s_ifF (J := dJ K p C J) ?_ s_next) ?_
    · by_cases c3 : C.rest = 0
      · exact t_andT (t_is (p_test (p_eqI (i := C.rest) (j := 0) (d_ix2 (e_var rfl)) e_int)) (decide_eq_true c3)) (t_is (p_test (p_lt (i := (C.pos : Nat)) (j := ((C.ns.map PyData.int).length : Nat)) (d_ix1 (e_var rfl)) (p_len (p_cons (d_ix0 (e_var rfl)) a_nil)))) (decide_eq_false (by rw [List.length_map]; omega)))
      · exact t_andF (t_is (p_test (p_eqI (i := C.rest) (j := 0) (d_ix2 (e_var rfl)) e_int)) (decide_eq_false c3))
    by_cases c4 : 0 < C.rest
    · have e2 : take1 C m = (C.rest % m, { C with rest := C.rest / m }) := by
        unfold take1
        exact if_pos c4
      rw [e2]
      refine s_stop (q_ifT (p_test (p_gt (i := C.rest) (j := 0) (d_ix2 (e_var rfl)) e_int)) (decide_eq_true c4) ?_)
      refine q_asg (d := .i (C.rest % m)) (p_mod (p_int1 (p_cons (d_ix2 (e_var rfl)) a_nil)) (e_var rfl) hm) ?_
      refine s_seq (d_set2 (x := C.rest / m) (p_div (p_int1 (p_cons (d_ix2 (e_var rfl)) a_nil)) (e_var rfl) (dm _)) (e_var rfl) hf) ?_
      exact p_ret (e_var rfl)
    · have e2 : take1 C m = (((C.seed * 48271 + 11) % 2147483647 / 3) % m, { C with seed := (C.seed * 48271 + 11) % 2147483647 }) := by
        unfold take1
        exact if_neg c4
      rw [e2]
      have b := ok.s
      refine q_skip (p_test (p_gt (i := C.rest) (j := 0) (d_ix2 (e_var rfl)) e_int)) (decide_eq_false c4) ?_
      refine s_seq (d_set3 (x := (C.seed * 48271 + 11) % 2147483647) (p_mod (p_int1 (p_cons (p_add (p_mul (d_ix3 (e_var rfl)) e_int (mulW (m := 32) (n := 32) (by omega) (by decide) (by decide))) e_int) a_nil)) e_int (by decide)) (e_var rfl) hf) ?_
      exact p_ret (p_mod (p_int1 (p_cons (p_div (d_ix3 (e_var rfl)) e_int (divW (n := 2) (by decide) (by decide) (by decide))) a_nil)) (e_var rfl) hm)
theorem fok_law_gcd (Tp : Top K mg base) : FnOk P w K mg base CX0 1 Tp.f_law_gcd Tp.d_law_gcd ["a", "b"] (spP K RGcd) := by
  refine Tp.F_law_gcd.ok sc_law_gcd (fun vs H Q E h => len_P (fun _ _ ⟨_, _, e, _⟩ => by rw [e]; rfl) h) (fun cdv A outer s H vs Q E hr h => ?_)
  refine ⟨_, (pss_cons (ps_while PassesOwn.never (pt_cmpR op_ne (pv 1) pe_int (nomark _)) (pss_one (ps_par (i := 0) (j := 1) rfl sc_law_gcd.nd rfl rfl (by decide) rfl rfl (pa_cons (pv 1) (pa_cons (pe_op op_mod (pe_callTy call_int1 (by rfl) Tp.n_int (by decide +kernel) (pa_cons (pv 0) pa_nil)) (pv 1)) pa_nil)) (by rfl))))
      (pss_one (ps_ret (pe_callB call_abs (by rfl) Tp.n_abs (by decide +kernel) (pa_cons (pv 0) pa_nil))))), body_P ?_ h⟩
  refine fun ds d r I => ?_
  obtain ⟨x, y, rfl, hx, hy, rfl⟩ := r
  walk_at "norm"
  refine s_seq (ρ1 := [some (.i (Int.gcd x y : Nat)), some (.i 0)]) (J := I) ?_ ?_
  · refine s_while (α := Int × Int) (fun s => Int.gcd s.1 s.2 = Int.gcd x y ∧ 0 ≤ s.1 ∧ 0 ≤ s.2) (fun s => [some (.i s.1), some (.i s.2)]) (fun _ => I) (fun s => s.2.natAbs) (x, y) ⟨rfl, hx, hy⟩ fun s iv => ?_
    obtain ⟨h1, h2, h3⟩ := iv
    by_cases h : s.2 = 0
    · refine .inr ⟨t_is (t_test (p_neI (i := s.2) (j := 0) (by walk_at "ev") (by walk_at "ev"))) (by rw [h]; rfl), ?_⟩
      rw [h, Int.gcd_zero_right] at h1
      have e : s.1 = (Int.gcd x y : Nat) := by rw [← h1]; omega
      rw [h, e]
    · refine .inl ⟨t_is (t_test (p_neI (i := s.2) (j := 0) (by walk_at "ev") (by walk_at "ev"))) (by rw [decide_eq_false h]; rfl), .inl ⟨(s.2, s.1 % s.2), ⟨(gcd_step s.1 s.2).trans h1, h3, Int.emod_nonneg _ h⟩, ?_, ?_⟩⟩
      · have q := Int.emod_lt_of_pos s.1 (show 0 < s.2 by omega)
        have q2 := Int.emod_nonneg s.1 h
        show (s.1 % s.2).natAbs < s.2.natAbs
        omega
      · refine p_par (d := .i s.2) (e := .i (s.1 % s.2)) ?_
        walk_at "ev"
        omega
  · refine p_ret (e_is (p_abs (i := (Int.gcd x y : Nat)) (by walk_at "ev")) ?_)
    rw [Int.natAbs_natCast]
theorem fok_minus (Tp : Top K mg base) : FnOk P w K mg base CX0 2 Tp.f_minus Tp.d_minus ["a", "b"] (spP K (RPlus minusM)) := by
  have G_plus := fok_plus (P := P) (w := w) (base := base) Tp
  refine Tp.F_minus.ok sc_minus (fun vs H Q E h => len_P (fun _ _ z => z.len) h) (fun cdv A outer s H vs Q E hr h => ?_)
  refine ⟨_, (pss_one (ps_ret (pe_call G_plus (hr.mono (by decide)) (by rfl) Tp.g_plus Tp.F_plus.kp Tp.b_plus .nil pass0 (pa_cons (pv 0) (pa_cons (pe_tup (pa_cons (pe_un un_neg (pe_ix (r := rIxT K) ix_tup (pv 1) pe_int (fun _ _ => rfl))) (pa_cons (pe_ix (r := rIxT K) ix_tup (pv 1) pe_int (fun _ _ => rfl)) pa_nil))) pa_nil))))), body_P ?_ h⟩
  refine fun ds d r I => ?_
  obtain ⟨a, b, rfl, ha, hb, rfl⟩ := r
  walk_at "norm"
  have pa := ha.nrm.1
  have pb := hb.nrm.1
  
  refine p_ret (p_call (p_cons ?_ (p_cons (p_frac (x := -b.1) (y := b.2) ?_ rfl) a_nil)) ⟨a, (-b.1, b.2), rfl, ha, ok_neg hb, rfl⟩)
  · walk_at "ev"
  · walk_at "ev"
theorem fok_over (Tp : Top K mg base) : FnOk P w K mg base (L2.CX P w) 2 Tp.f_over Tp.d_over ["a", "b"] (spX K (ROver Tp.c_ZeroDenominator)) := by
  have G_times := fok_times (P := P) (w := w) (base := base) Tp
  refine Tp.F_over.okX sc_over (fun vs H Q E h => len_X (fun _ _ ⟨_, _, e, _⟩ => by rw [e]; rfl) h) (fun cdv A outer s H vs Q E hr h => ?_)
  refine ⟨_, (pss_cons (ps_if (pt_cmpR op_eq (pe_ix (r := rIxT K) ix_tup (pv 1) pe_int (fun _ _ => rfl)) pe_int (nomark _)) (pss_one (ps_raise rfl (takes_of rfl rfl rfl rfl) (pmk_own PySem.F.excBase_ValueError Tp.xc_ZeroDenominator Tp.gc_ZeroDenominator Tp.kc_ZeroDenominator (raises_own Tp.bc_ZeroDenominator Tp.tc_ZeroDenominator) rfl))) pss_nil)
      (pss_cons (ps_if (pt_cmpR op_lt (pe_ix (r := rIxT K) ix_tup (pv 1) pe_int (fun _ _ => rfl)) pe_int (nomark _)) (pss_one (ps_ret (pe_call G_times (hr.mono (by decide)) (by rfl) Tp.g_times Tp.F_times.kp Tp.b_times .nil pass0 (pa_cons (pv 0) (pa_cons (pe_tup (pa_cons (pe_un un_neg (pe_ix (r := rIxT K) ix_tup (pv 1) pe_int (fun _ _ => rfl))) (pa_cons (pe_un un_neg (pe_ix (r := rIxT K) ix_tup (pv 1) pe_int (fun _ _ => rfl))) pa_nil))) pa_nil))))) pss_nil)
      (pss_one (ps_ret (pe_call G_times (hr.mono (by decide)) (by rfl) Tp.g_times Tp.F_times.kp Tp.b_times .nil pass0 (pa_cons (pv 0) (pa_cons (pe_tup (pa_cons (pe_ix (r := rIxT K) ix_tup (pv 1) pe_int (fun _ _ => rfl)) (pa_cons (pe_ix (r := rIxT K) ix_tup (pv 1) pe_int (fun _ _ => rfl)) pa_nil))) pa_nil))))))), body_X ?_ h⟩
  refine fun ds r hr I hx => ?_
  obtain ⟨a, b, rfl, ha, hb, hr⟩ := hr
  walk_at "norm"
  rcases hr with ⟨h0, rfl⟩ | ⟨h0, rfl⟩
  · refine q_skip (p_test (p_eqI (i := b.1) (j := 0) (by walk_at "ev") (by walk_at "ev"))) (decide_eq_false h0) ?_
    by_cases c : b.1 < 0
    · refine s_stop (q_ifT (p_test (p_lt (i := b.1) (j := 0) (by walk_at "ev") (by walk_at "ev"))) (decide_eq_true c) ?_)
      refine p_ret (p_call (R := RPlus timesM) (ds := [.d (fr a), .d (fr (invM b))]) (p_cons (by walk_at "ev") (p_cons (p_frac (x := -b.2) (y := -b.1) (by walk_at "ev") (by unfold invM; exact if_pos c)) a_nil)) (RPlus.mk ha (ok_inv hb h0)))
    · refine q_skip (p_test (p_lt (i := b.1) (j := 0) (by walk_at "ev") (by walk_at "ev"))) (decide_eq_false c) ?_
      refine p_ret (p_call (R := RPlus timesM) (ds := [.d (fr a), .d (fr (invM b))]) (p_cons (by walk_at "ev") (p_cons (p_frac (x := b.2) (y := b.1) (by walk_at "ev") (by unfold invM; exact if_neg c)) a_nil)) (RPlus.mk ha (ok_inv hb h0)))
  · exact s_err (q_ifT (p_test (p_eqI (i := b.1) (j := 0) (by walk_at "ev") (by walk_at "ev"))) (decide_eq_true h0) (s_raise' fun G H σ D gh io => hx _ rfl G H io))
theorem fok_least (Tp : Top K mg base) : FnOk P w K mg base CX0 2 Tp.f_least Tp.d_least ["items"] (spP K (RBest less)) := by
  have G_compare := fok_compare (P := P) (w := w) (base := base) Tp
  refine Tp.F_least.ok sc_least (fun vs H Q E h => len_P (fun _ _ ⟨_, _, e, _⟩ => by rw [e]; rfl) h) (fun cdv A outer s H vs Q E hr h => ?_)
  refine ⟨_, (pss_cons (ps_set (i := 1) sc_least.nd rfl (.inl rfl) (pe_ix (r := rIxT K) ix_tup (pv 0) pe_int (fun _ _ => rfl)))
      (pss_cons (ps_for PassesOwn.never rfl (pi_tup (pv 0)) (pg_name (i := 2) sc_least.nd rfl (.inl rfl)) (pss_one (ps_if (pt_cmpR op_lt (pe_call G_compare (hr.mono (by decide)) (by rfl) Tp.g_compare Tp.F_compare.kp Tp.b_compare .nil pass0 (pa_cons (pv 2) (pa_cons (pv 1) pa_nil))) pe_int (nomark _)) (pss_one (ps_set (i := 1) sc_least.nd rfl (.inl rfl) (pv 2))) pss_nil)))
      (pss_one (ps_ret (pv 1))))), body_P ?_ h⟩
  refine fun ds d r I => ?_
  obtain ⟨x, xs, rfl, hx, rfl⟩ := r
  walk_at "norm"
  refine q_asg (d := .d (fr x)) (by walk_at "ev") ?_
  have hall : ∀ y ∈ x :: xs, PL.Ok 4000 y := hx
  refine s_seq (s_forT (ds := fr x :: xs.map fr) (j := 2) (fun i => [some (.t (fr x :: xs.map fr)), some (.d (fr (bestL less x ((x :: xs).take i)))), none]) (fun _ => I) (e_var rfl) rfl ?_) (p_ret (e_is (e_var rfl) ?_))
  rotate_left
  · rw [List.take_of_length_le (by simp)]
  · intro i y hy
    have hy' : ((x :: xs).map fr)[i]? = some y := hy
    rw [List.getElem?_map, Option.map_eq_some_iff] at hy'
    obtain ⟨w, hw, rfl⟩ := hy'
    obtain ⟨hi, ew⟩ := List.getElem?_eq_some_iff.mp hw
    have ok1 : PL.Ok 4000 w := hall w (by rw [← ew]; exact List.getElem_mem hi)
    have ok2 : PL.Ok 4000 (bestL less x ((x :: xs).take i)) := by
      rcases bestL_mem less ((x :: xs).take i) x with e | e
      · rw [e]; exact hall x List.mem_cons_self
      · exact hall _ (List.mem_of_mem_take e)
    refine s_lessN (ρ' := [some (.t (fr x :: xs.map fr)), some (.d (fr (bestL less x ((x :: xs).take (i + 1))))), some (.d (fr w))]) ⟨.inr rfl, .inr rfl, .inl rfl, trivial⟩ ?_
    rw [List.take_add_one, hw, show (some w).toList = [w] from rfl, bestL_snoc]
    generalize bestL less x ((x :: xs).take i) = b at *
    have ec : less w b = decide (cmpM w b < 0) := less_cmp w b
    by_cases c : less w b = true
    · rw [if_pos c]
      exact q_ifT (p_test (p_lt (i := cmpM w b) (j := 0) (p_call (R := RCmp) (ds := [.d (fr w), .d (fr b)]) (by walk_at "ev") ⟨_, _, rfl, ok1, ok2, rfl⟩) (by walk_at "ev"))) (by rw [← ec]; exact c) (p_asg (by walk_at "ev"))
    · rw [if_neg c]
      refine q_ifF (p_test (p_lt (i := cmpM w b) (j := 0) (p_call (R := RCmp) (ds := [.d (fr w), .d (fr b)]) (by walk_at "ev") ⟨_, _, rfl, ok1, ok2, rfl⟩) (by walk_at "ev"))) (by rw [← ec]; exact Bool.eq_false_iff.mpr c) s_next
theorem fok_greatest (Tp : Top K mg base) : FnOk P w K mg base CX0 2 Tp.f_greatest Tp.d_greatest ["items"] (spP K (RBest more)) := by
  have G_compare := fok_compare (P := P) (w := w) (base := base) Tp
  refine Tp.F_greatest.ok sc_greatest (fun vs H Q E h => len_P (fun _ _ ⟨_, _, e, _⟩ => by rw [e]; rfl) h) (fun cdv A outer s H vs Q E hr h => ?_)
  refine ⟨_, (pss_cons (ps_set (i := 1) sc_greatest.nd rfl (.inl rfl) (pe_ix (r := rIxT K) ix_tup (pv 0) pe_int (fun _ _ => rfl)))
      (pss_cons (ps_for PassesOwn.never rfl (pi_tup (pv 0)) (pg_name (i := 2) sc_greatest.nd rfl (.inl rfl)) (pss_one (ps_if (pt_cmpR op_gt (pe_call G_compare (hr.mono (by decide)) (by rfl) Tp.g_compare Tp.F_compare.kp Tp.b_compare .nil pass0 (pa_cons (pv 2) (pa_cons (pv 1) pa_nil))) pe_int (nomark _)) (pss_one (ps_set (i := 1) sc_greatest.nd rfl (.inl rfl) (pv 2))) pss_nil)))
      (pss_one (ps_ret (pv 1))))), body_P ?_ h⟩
  refine fun ds d r I => ?_
  obtain ⟨x, xs, rfl, hx, rfl⟩ := r
  walk_at "norm"
  refine q_asg (d := .d (fr x)) (by walk_at "ev") ?_
  have hall : ∀ y ∈ x :: xs, PL.Ok 4000 y := hx
  refine s_seq (s_forT (ds := fr x :: xs.map fr) (j := 2) (fun i => [some (.t (fr x :: xs.map fr)), some (.d (fr (bestL more x ((x :: xs).take i)))), none]) (fun _ => I) (e_var rfl) rfl ?_) (p_ret (e_is (e_var rfl) ?_))
  rotate_left
  · rw [List.take_of_length_le (by simp)]
  · intro i y hy
    have hy' : ((x :: xs).map fr)[i]? = some y := hy
    rw [List.getElem?_map, Option.map_eq_some_iff] at hy'
    obtain ⟨w, hw, rfl⟩ := hy'
    obtain ⟨hi, ew⟩ := List.getElem?_eq_some_iff.mp hw
    have ok1 : PL.Ok 4000 w := hall w (by rw [← ew]; exact List.getElem_mem hi)
    have ok2 : PL.Ok 4000 (bestL more x ((x :: xs).take i)) := by
      rcases bestL_mem more ((x :: xs).take i) x with e | e
      · rw [e]; exact hall x List.mem_cons_self
      · exact hall _ (List.mem_of_mem_take e)
    refine s_lessN (ρ' := [some (.t (fr x :: xs.map fr)), some (.d (fr (bestL more x ((x :: xs).take (i + 1))))), some (.d (fr w))]) ⟨.inr rfl, .inr rfl, .inl rfl, trivial⟩ ?_
    rw [List.take_add_one, hw, show (some w).toList = [w] from rfl, bestL_snoc]
    generalize bestL more x ((x :: xs).take i) = b at *
    have ec : more w b = decide (0 < cmpM w b) := more_cmp w b
    by_cases c : more w b = true
    · rw [if_pos c]
      exact q_ifT (p_test (p_gt (i := cmpM w b) (j := 0) (p_call (R := RCmp) (ds := [.d (fr w), .d (fr b)]) (by walk_at "ev") ⟨_, _, rfl, ok1, ok2, rfl⟩) (by walk_at "ev"))) (by rw [← ec]; exact c) (p_asg (by walk_at "ev"))
    · rw [if_neg c]
      refine q_ifF (p_test (p_gt (i := cmpM w b) (j := 0) (p_call (R := RCmp) (ds := [.d (fr w), .d (fr b)]) (by walk_at "ev") ⟨_, _, rfl, ok1, ok2, rfl⟩) (by walk_at "ev"))) (by rw [← ec]; exact Bool.eq_false_iff.mpr c) s_next
theorem fok_dot (Tp : Top K mg base) : FnOk P w K mg base CX0 2 Tp.f_dot Tp.d_dot ["a", "b"] (spP K RDot) := by
  have G_plus := fok_plus (P := P) (w := w) (base := base) Tp
  have G_times := fok_times (P := P) (w := w) (base := base) Tp
  refine Tp.F_dot.ok sc_dot (fun vs H Q E h => len_P (fun _ _ ⟨_, _, _, _, e, _⟩ => by rw [e]; rfl) h) (fun cdv A outer s H vs Q E hr h => ?_)
  refine ⟨_, (pss_one (ps_ret (pe_call G_plus (hr.mono (by decide)) (by rfl) Tp.g_plus Tp.F_plus.kp Tp.b_plus .nil pass0 (pa_cons (pe_call G_times (hr.mono (by decide)) (by rfl) Tp.g_times Tp.F_times.kp Tp.b_times .nil pass0 (pa_cons (pe_ix (r := rIxT K) ix_tup (pv 0) pe_int (fun _ _ => rfl)) (pa_cons (pe_ix (r := rIxT K) ix_tup (pv 1) pe_int (fun _ _ => rfl)) pa_nil))) (pa_cons (pe_call G_times (hr.mono (by decide)) (by rfl) Tp.g_times Tp.F_times.kp Tp.b_times .nil pass0 (pa_cons (pe_ix (r := rIxT K) ix_tup (pv 0) pe_int (fun _ _ => rfl)) (pa_cons (pe_ix (r := rIxT K) ix_tup (pv 1) pe_int (fun _ _ => rfl)) pa_nil))) pa_nil))))), body_P ?_ h⟩
  refine fun ds d r I => ?_
  obtain ⟨a, b, x, y, rfl, ha, hb, hx, hy, rfl⟩ := r
  walk_at "norm"
  exact p_ret (p_call (R := RPlus plusM) (ds := [.d (fr (timesM a x)), .d (fr (timesM b y))]) (p_cons (p_call (R := RPlus timesM) (ds := [.d (fr a), .d (fr x)]) (p_cons (p_i0 (e_var rfl)) (p_cons (p_i0 (e_var rfl)) a_nil)) (RPlus.mk ha hx)) (p_cons (p_call (R := RPlus timesM) (ds := [.d (fr b), .d (fr y)]) (p_cons (p_i1 (e_var rfl)) (p_cons (p_i1 (e_var rfl)) a_nil)) (RPlus.mk hb hy)) a_nil)) (RPlus.mk (PL.ok_times ha hx) (PL.ok_times hb hy)))
theorem fok_check_box (Tp : Top K mg base) : FnOk P w K mg base (L2.CX P w) 2 Tp.f_check_box Tp.d_check_box ["box"] (spX K (RCheck Tp.c_BoxError)) := by
  have G_is_sized := fok_is_sized (P := P) (w := w) (base := base) Tp
  refine Tp.F_check_box.okX sc_check_box (fun vs H Q E h => len_X (fun _ _ ⟨_, e, _⟩ => by rw [e]; rfl) h) (fun cdv A outer s H vs Q E hr h => ?_)
  refine ⟨_, (pss_one (ps_if (pt_not (pt_val (pe_call G_is_sized (hr.mono (by decide)) (by rfl) Tp.g_is_sized Tp.F_is_sized.kp Tp.b_is_sized .nil pass0 (pa_cons (pe_ix (r := rIxT K) ix_tup (pv 0) pe_int (fun _ _ => rfl)) pa_nil)))) (pss_one (ps_raise rfl (takes_of rfl rfl rfl rfl) (pmk_own PySem.F.excBase_ValueError Tp.xc_BoxError Tp.gc_BoxError Tp.kc_BoxError (raises_own Tp.bc_BoxError Tp.tc_BoxError) rfl))) pss_nil)), body_XN ?_ h⟩
  refine fun ds r hr I hx => ?_
  obtain ⟨b, rfl, hr⟩ := hr
  walk_at "norm"
  rcases hr with ⟨h0, rfl⟩ | ⟨h0, rfl⟩
  · exact .inl ⟨rfl, _, q_ifF (t_not (t_B (p_call (R := RSized) (ds := [.t [fr b.s0, fr b.s1]]) (by walk_at "ev") ⟨_, _, rfl, rfl⟩))) (show (!b.sized) = false by rw [h0]; rfl) s_next⟩
  · exact .inr ⟨_, rfl, fun k => q_ifT (t_not (t_B (p_call (R := RSized) (ds := [.t [fr b.s0, fr b.s1]]) (by walk_at "ev") ⟨_, _, rfl, rfl⟩))) (show (!b.sized) = true by rw [h0]; rfl) (s_raise' fun G H σ D gh io => hx _ rfl G H io)⟩
theorem fok_ends_of (Tp : Top K mg base) : FnOk P w K mg base CX0 2 Tp.f_ends_of Tp.d_ends_of ["box"] (spP K REnds) := by
  have G_plus := fok_plus (P := P) (w := w) (base := base) Tp
  refine Tp.F_ends_of.ok sc_ends_of (fun vs H Q E h => len_P (fun _ _ z => by obtain ⟨_, e, _⟩ := z; rw [e]; rfl) h) (fun cdv A outer s H vs Q E hr h => ?_)
  refine ⟨_, (pss_cons (ps_asg (pv 0) (pg_tup rfl (pgs_cons (pg_tup rfl (pgs_cons (pg_name (i := 1) sc_ends_of.nd rfl (.inl rfl)) (pgs_cons (pg_name (i := 2) sc_ends_of.nd rfl (.inl rfl)) pgs_nil))) (pgs_cons (pg_tup rfl (pgs_cons (pg_name (i := 3) sc_ends_of.nd rfl (.inl rfl)) (pgs_cons (pg_name (i := 4) sc_ends_of.nd rfl (.inl rfl)) pgs_nil))) pgs_nil))))
      (pss_one (ps_ret (pe_tup (pa_cons (pe_tup (pa_cons (pv 1) (pa_cons (pe_call G_plus (hr.mono (by decide)) (by rfl) Tp.g_plus Tp.F_plus.kp Tp.b_plus .nil pass0 (pa_cons (pv 1) (pa_cons (pv 3) pa_nil))) pa_nil))) (pa_cons (pe_tup (pa_cons (pv 2) (pa_cons (pe_call G_plus (hr.mono (by decide)) (by rfl) Tp.g_plus Tp.F_plus.kp Tp.b_plus .nil pass0 (pa_cons (pv 2) (pa_cons (pv 4) pa_nil))) pa_nil))) pa_nil)))))), body_P ?_ h⟩
  refine fun ds d r I => ?_
  obtain ⟨b, rfl, h1, h2, h3, h4, rfl⟩ := r
  walk_at "norm"
  refine s_seq (s_asgG (e_var rfl) (g_tup rfl (g_cons (g_tup rfl (g_cons g_name (g_cons g_name g_nil))) (g_cons (g_tup rfl (g_cons g_name (g_cons g_name g_nil))) g_nil)))) ?_
  refine p_ret (p_tup2 (p_cons (p_tup2 (p_cons (by walk_at "ev") (p_cons (p_call (R := RPlus plusM) (ds := [.d (fr b.p0), .d (fr b.s0)]) (by walk_at "ev") (RPlus.mk h1 h3)) a_nil))) (p_cons (p_tup2 (p_cons (by walk_at "ev") (p_cons (p_call (R := RPlus plusM) (ds := [.d (fr b.p1), .d (fr b.s1)]) (by walk_at "ev") (RPlus.mk h2 h4)) a_nil))) a_nil)))
theorem fok_Broad_remove (Tp : Top K mg base) : FnOk P w K mg base (L2.CX P w) 2 Tp.f_Broad_remove Tp.d_Broad_remove ["self", "name"] (spM K Tp.tabs (RTake (IsB K Tp.C_Broad))) := by
  have G_check_used := fok_check_used (P := P) (w := w) (base := base) Tp
  have G_Broad_take := fok_Broad_take (P := P) (w := w) (base := base) Tp
  refine Tp.F_Broad_remove.okX sc_Broad_remove (fun vs H Q E h => len_M (fun _ _ _ ⟨_, _, _, e, _⟩ => by rw [e]; rfl) h) (fun cdv A outer s H vs Q E hr h => ?_)
  refine ⟨_, (pss_cons (ps_expr (pe_call G_check_used (hr.mono (by decide)) (by rfl) Tp.g_check_used Tp.F_check_used.kp Tp.b_check_used .nil (passes_call (takes_of rfl rfl rfl rfl) (fun _ _ _ _ z => z)) (pa_cons (pe_fld (pv 0) rfl) (pa_cons (pv 1) pa_nil))))
      (pss_one (ps_expr (pe_meth (pv 0) Tp.cl_Broad Tp.me_Broad_take G_Broad_take (hr.mono (by decide)) Tp.b_Broad_take .nil pass0 (pa_cons (pv 1) pa_nil))))), body_V ?_ h⟩
  refine fun ds Z Po r J hT ap => ?_
  obtain ⟨q, n, tb, rfl, hIs, hn, rfl⟩ := r
  have hIs0 := hIs
  obtain ⟨ab, ae, ap1, pt, bk, rfl⟩ := hIs
  have nd0 := bk.t0.nd
  have le0 := bk.t0.le
  walk_at "norm"
  obtain ⟨b0, hb0⟩ := has_bx hn
  refine s_seq (s_drop (e_callQ (R := RUsed K) (Z := kA K ab (bxsD tb)) (ds := [.r ab, .i n]) (d := .d .none) (p_cons (e_fldR (fs := [("boxes", .r ab), ("ends", .r ae), ("partners", .r ap1)]) Tp.cl_Broad Tp.na_Broad_boxes (e_var (i := 0) rfl) (fun G H z => ca_ins z.1 b_ins) rfl) (p_cons (e_var rfl) a_nil)) (fun G H z => ca_k z.1 b_bx) ⟨ab, bxsD tb, n, _, rfl, rfl, val_bx nd0 hb0, rfl⟩)) ?_
  exact s_dropN (en_methM (T := Tp.tabs) (R := RTake (IsB K Tp.C_Broad)) (ds := [.i n]) (q := q) (Z := cA (bCs K Tp.C_Broad q ab ae ap1 tb pt)) (e_var rfl) (p_cons (e_var rfl) a_nil) (fun G H z => ca_look z b_ins rfl) ⟨q, n, tb, rfl, hIs0, hn, rfl⟩  ap (P := fun d L => ∃ Y, (d = .d .none ∧ (IsB K Tp.C_Broad) q (delT tb n) Y) ∧ Apart Y J ∧ L = Y.and J) fun d Y po a2 => ⟨Y, po, a2, rfl⟩) fun d L ⟨Y, po, a2, e⟩ => ⟨Y, ⟨rfl, po.2⟩, a2, fun _ _ z => e ▸ z⟩
theorem fok_Broad_box_of (Tp : Top K mg base) : FnOk P w K mg base (L2.CX P w) 2 Tp.f_Broad_box_of Tp.d_Broad_box_of ["self", "name"] (spQ K noT (RBoxO (IsB K Tp.C_Broad))) := by
  have G_check_used := fok_check_used (P := P) (w := w) (base := base) Tp
  refine Tp.F_Broad_box_of.okX sc_Broad_box_of (fun vs H Q E h => len_Q (fun _ _ _ ⟨_, _, _, _, e, _⟩ => by rw [e]; rfl) h) (fun cdv A outer s H vs Q E hr h => ?_)
  refine ⟨_, (pss_cons (ps_expr (pe_call G_check_used (hr.mono (by decide)) (by rfl) Tp.g_check_used Tp.F_check_used.kp Tp.b_check_used .nil (passes_call (takes_of rfl rfl rfl rfl) (fun _ _ _ _ z => z)) (pa_cons (pe_fld (pv 0) rfl) (pa_cons (pv 1) pa_nil))))
      (pss_one (ps_ret (pe_dget (hu_of hr) (pe_fld (pv 0) rfl) (pv 1) (fun _ _ => rfl))))), body_Q ?_ h⟩
  refine fun ds Z d r I hT hZ => ?_
  obtain ⟨q, n, b, tb, rfl, ⟨ab, ae, ap, pt, bk, rfl⟩, hb, rfl⟩ := r
  walk_at "norm"
  have hv := val_bx bk.t0.nd hb
  refine s_seq (s_drop (e_callQ (R := RUsed K) (Z := kA K ab (bxsD tb)) (ds := [.r ab, .i n]) (d := .d .none) (p_cons (e_fldR (fs := [("boxes", .r ab), ("ends", .r ae), ("partners", .r ap)]) Tp.cl_Broad Tp.na_Broad_boxes (e_var (i := 0) rfl) (fun G H z => ca_ins (hZ G H z) b_ins) rfl) (p_cons (e_var rfl) a_nil)) (fun G H z => ca_k (hZ G H z) b_bx) ⟨ab, bxsD tb, n, _, rfl, rfl, hv, rfl⟩)) ?_
  exact p_ret (e_kGetM (e_fldR (fs := [("boxes", .r ab), ("ends", .r ae), ("partners", .r ap)]) Tp.cl_Broad Tp.na_Broad_boxes (e_var (i := 0) rfl) (fun G H z => ca_ins (hZ G H z) b_ins) rfl) (e_var rfl) (fun G H z => ca_k (hZ G H z) b_bx) hv)
theorem fok_Tree_box_of (Tp : Top K mg base) : FnOk P w K mg base (L2.CX P w) 2 Tp.f_Tree_box_of Tp.d_Tree_box_of ["self", "name"] (spQ K noT (RBoxO (IsT K Tp.C_Tree))) := by
  have G_check_used := fok_check_used (P := P) (w := w) (base := base) Tp
  refine Tp.F_Tree_box_of.okX sc_Tree_box_of (fun vs H Q E h => len_Q (fun _ _ _ ⟨_, _, _, _, e, _⟩ => by rw [e]; rfl) h) (fun cdv A outer s H vs Q E hr h => ?_)
  refine ⟨_, (pss_cons (ps_expr (pe_call G_check_used (hr.mono (by decide)) (by rfl) Tp.g_check_used Tp.F_check_used.kp Tp.b_check_used .nil (passes_call (takes_of rfl rfl rfl rfl) (fun _ _ _ _ z => z)) (pa_cons (pe_fld (pv 0) rfl) (pa_cons (pv 1) pa_nil))))
      (pss_one (ps_ret (pe_dget (hu_of hr) (pe_fld (pv 0) rfl) (pv 1) (fun _ _ => rfl))))), body_Q ?_ h⟩
  refine fun ds Z d r I hT hZ => ?_
  obtain ⟨q, n, b, tb, rfl, ⟨ab, top, ne, tk, rfl⟩, hb, rfl⟩ := r
  walk_at "norm"
  have hv := val_bx tk.t0.nd hb
  refine s_seq (s_drop (e_callQ (R := RUsed K) (Z := kA K ab (bxsD tb)) (ds := [.r ab, .i n]) (d := .d .none) (p_cons (e_fldR (fs := [("_boxes", .r ab), ("_top", .d (topD top))]) Tp.cl_Tree Tp.na_Tree__boxes (e_var (i := 0) rfl) (fun G H z => ca_ins (hZ G H z) t_ins) rfl) (p_cons (e_var rfl) a_nil)) (fun G H z => ca_k (hZ G H z) t_dic) ⟨ab, bxsD tb, n, _, rfl, rfl, hv, rfl⟩)) ?_
  exact p_ret (e_kGetM (e_fldR (fs := [("_boxes", .r ab), ("_top", .d (topD top))]) Tp.cl_Tree Tp.na_Tree__boxes (e_var (i := 0) rfl) (fun G H z => ca_ins (hZ G H z) t_ins) rfl) (e_var rfl) (fun G H z => ca_k (hZ G H z) t_dic) hv)
theorem fok_law_signed (Tp : Top K mg base) : FnOk P w K mg base CX0 2 Tp.f_law_signed Tp.d_law_signed ["d", "most"] (spW K RSigned) := by
  have G_law_take := fok_law_take (P := P) (w := w) (base := base) Tp
  refine Tp.F_law_signed.ok sc_law_signed (fun vs H Q E h => len_W (fun _ _ _ _ ⟨_, e, _⟩ => by rw [e]; rfl) h) (fun cdv A outer s H vs Q E hr h => ?_)
  refine ⟨_, (pss_one (ps_ret (pe_op op_sub (pe_call G_law_take (hr.mono (by decide)) (by rfl) Tp.g_law_take Tp.F_law_take.kp Tp.b_law_take .nil pass0 (pa_cons (pv 0) (pa_cons (pe_op op_add (pe_op op_mulW pe_int (pv 1)) pe_int) pa_nil))) (pv 1)))), body_W ?_ h⟩
  refine fun ds C d C' r p J hf => ?_
  obtain ⟨m, rfl, ok, hm, hz, rfl, rfl⟩ := r
  walk_at "norm"
  refine s_ret (e_sub (e_draw (R := RTake) (ds := [.i (2 * m + 1)]) (C := C) (p_cons (e_var rfl) (p_cons (p_add (p_mul e_int (e_var rfl) (mulW (m := 2) (n := 8000) (by decide) hz (by decide))) e_int) a_nil)) ⟨_, rfl, ok, by omega, ?_, rfl, rfl⟩ hf) (e_var rfl))
  exact sz_le (n := 8500) (sz_add (m := 8002) (sz_mul (m := 2) (n := 8000) (by decide) hz) (Nat.lt_of_lt_of_le (show (1 : Int).natAbs < 2 ^ 1 by decide) (Nat.pow_le_pow_right (by decide) (by decide)))) (by decide)
theorem fok_law_f (Tp : Top K mg base) : FnOk P w K mg base CX0 2 Tp.f_law_f Tp.d_law_f ["a", "b"] (spP K RF) := by
  have G_law_gcd := fok_law_gcd (P := P) (w := w) (base := base) Tp
  refine Tp.F_law_f.ok sc_law_f (fun vs H Q E h => len_P (fun _ _ ⟨_, _, e, _⟩ => by rw [e]; rfl) h) (fun cdv A outer s H vs Q E hr h => ?_)
  refine ⟨_, (pss_cons (ps_if (pt_cmpR op_lt (pv 1) pe_int (nomark _)) (pss_cons (ps_set (i := 0) sc_law_f.nd rfl (.inl rfl) (pe_op op_sub pe_int (pv 0)))
      (pss_one (ps_set (i := 1) sc_law_f.nd rfl (.inl rfl) (pe_op op_sub pe_int (pv 1))))) pss_nil)
      (pss_cons (ps_set (i := 2) sc_law_f.nd rfl (.inl rfl) (pe_call G_law_gcd (hr.mono (by decide)) (by rfl) Tp.g_law_gcd Tp.F_law_gcd.kp Tp.b_law_gcd .nil pass0 (pa_cons (pe_callB call_abs (by rfl) Tp.n_abs (by decide +kernel) (pa_cons (pv 0) pa_nil)) (pa_cons (pv 1) pa_nil))))
      (pss_one (ps_ret (pe_tup (pa_cons (pe_op op_fdivW (pv 0) (pv 2)) (pa_cons (pe_op op_fdivW (pv 1) (pv 2)) pa_nil))))))), body_P ?_ h⟩
  refine fun ds d r I => ?_
  obtain ⟨x, y, rfl, h0, hx, hy, rfl⟩ := r
  walk_at "norm"
  refine s_seq (ρ1 := [some (.i (if y < 0 then 0 - x else x)), some (.i (if y < 0 then 0 - y else y)), none]) (J := I) ?_ ?_
  · by_cases h : y < 0
    · rw [if_pos h, if_pos h]
      exact q_ifT (p_test (p_lt (i := y) (j := 0) (by walk_at "ev") (by walk_at "ev"))) (decide_eq_true h) (q_asg (d := .i (0 - x)) (by walk_at "ev") (p_asg (d := .i (0 - y)) (by walk_at "ev")))
    · rw [if_neg h, if_neg h]
      exact q_ifF (p_test (p_lt (i := y) (j := 0) (by walk_at "ev") (by walk_at "ev"))) (decide_eq_false h) s_next
  · have e : lf x y = nf (if y < 0 then 0 - x else x) (if y < 0 then 0 - y else y) := by
      unfold lf
      split <;> rfl
    rw [e]
    have h0' : 0 < (if y < 0 then 0 - y else y) := by split <;> omega
    have hx' : (if y < 0 then 0 - x else x).natAbs < 2 ^ 8500 := by
      split
      · rw [Int.zero_sub, Int.natAbs_neg]; exact hx
      · exact hx
    have hy' : (if y < 0 then 0 - y else y).natAbs < 2 ^ 8500 := by
      split
      · rw [Int.zero_sub, Int.natAbs_neg]; exact hy
      · exact hy
    generalize (if y < 0 then 0 - y else y) = v at *
    generalize (if y < 0 then 0 - x else x) = u at *
    have g0 : Int.gcd u v ≠ 0 := Int.gcd_ne_zero_right (by omega)
    have hg : (0 : Int) < (Int.gcd u v : Nat) := by omega
    have zg : ((Int.gcd u v : Nat) : Int).natAbs < 2 ^ 8500 := sz_gcd hy' (by omega)
    refine q_asg (d := .i (Int.gcd u v : Nat)) (e_is (p_call (R := RGcd) (ds := [.i (u.natAbs : Nat), .i v]) (by walk_at "ev") ⟨_, _, rfl, by omega, by omega, rfl⟩) (by rw [gcd_abs])) ?_
    refine p_ret (p_frac (x := u / (Int.gcd u v : Nat)) (y := v / (Int.gcd u v : Nat)) ?_ rfl)
    walk_at "ev"
    · exact divW hg zg (by decide)
    · exact divW hg zg (by decide)
theorem fok_gap_of_ends (Tp : Top K mg base) : FnOk P w K mg base CX0 3 Tp.f_gap_of_ends Tp.d_gap_of_ends ["one", "other"] (spP K RGapE) := by
  have G_greatest := fok_greatest (P := P) (w := w) (base := base) Tp
  have G_minus := fok_minus (P := P) (w := w) (base := base) Tp
  refine Tp.F_gap_of_ends.ok sc_gap_of_ends (fun vs H Q E h => len_P (fun _ _ ⟨_, _, _, _, e, _⟩ => by rw [e]; rfl) h) (fun cdv A outer s H vs Q E hr h => ?_)
  refine ⟨_, (pss_one (ps_ret (pe_call G_greatest (hr.mono (by decide)) (by rfl) Tp.g_greatest Tp.F_greatest.kp Tp.b_greatest .nil pass0 (pa_cons (pe_tup (pa_cons (pe_call G_minus (hr.mono (by decide)) (by rfl) Tp.g_minus Tp.F_minus.kp Tp.b_minus .nil pass0 (pa_cons (pe_ix (r := rIxT K) ix_tup (pv 1) pe_int (fun _ _ => rfl)) (pa_cons (pe_ix (r := rIxT K) ix_tup (pv 0) pe_int (fun _ _ => rfl)) pa_nil))) (pa_cons (pe_call G_minus (hr.mono (by decide)) (by rfl) Tp.g_minus Tp.F_minus.kp Tp.b_minus .nil pass0 (pa_cons (pe_ix (r := rIxT K) ix_tup (pv 0) pe_int (fun _ _ => rfl)) (pa_cons (pe_ix (r := rIxT K) ix_tup (pv 1) pe_int (fun _ _ => rfl)) pa_nil))) pa_nil))) pa_nil)))), body_P ?_ h⟩
  refine fun ds d r I => ?_
  obtain ⟨la, ha, lb, hb, rfl, h1, h2, h3, h4, rfl⟩ := r
  walk_at "norm"
  have m1 := PL.ok_minus h3 h2
  have m2 := PL.ok_minus h1 h4
  exact p_ret (p_call (R := RBest more) (ds := [.t [fr (minusM lb ha), fr (minusM la hb)]]) (p_cons (p_tup2 (p_cons (p_call (R := RPlus minusM) (ds := [.d (fr lb), .d (fr ha)]) (p_cons (p_i0 (e_var rfl)) (p_cons (p_i1 (e_var rfl)) a_nil)) (RPlus.mk h3 h2)) (p_cons (p_call (R := RPlus minusM) (ds := [.d (fr la), .d (fr hb)]) (p_cons (p_i0 (e_var rfl)) (p_cons (p_i1 (e_var rfl)) a_nil)) (RPlus.mk h1 h4)) a_nil))) a_nil) ⟨minusM lb ha, [minusM la hb], rfl, two_in (m1.mono (by decide)) (m2.mono (by decide)), rfl⟩)
theorem fok_ends_meet (Tp : Top K mg base) : FnOk P w K mg base CX0 3 Tp.f_ends_meet Tp.d_ends_meet ["one", "other"] (spT K Tp.tabs (RPairs le0)) := by
  have G_compare := fok_compare (P := P) (w := w) (base := base) Tp
  refine Tp.F_ends_meet.ok sc_ends_meet (fun vs H Q E h => len_P (fun _ _ ⟨_, _, e, _⟩ => by rw [e]; rfl) h) (fun A outer s H vs Q E hr h => ?_)
  refine ⟨_, (pss_one (ps_ret (GX.pe_all (own := [("axis", 2)]) hr (by rfl) Tp.n_all (by decide +kernel) Tp.tb_ends_meet rfl (blkOk_by (N := ["one", "other", "axis"]) (sc := defScope s_ends_meet) (by decide +kernel)) ⟨rfl, by decide +kernel, rfl⟩ sc_ends_meet.nd (pi_tup (pe_tup (pa_cons pe_int (pa_cons pe_int pa_nil)))) (fun _ _ _ _ _ _ _ => (pg_name (i := 2) sc_ends_meet.nd rfl (Or.inl rfl))) (fun _ _ _ _ _ _ hr => pts_nil) (fun _ _ _ _ _ _ hr => (pe_and (pe_cmpR op_le (pe_call G_compare (hr.mono (by decide)) (by rfl) Tp.g_compare Tp.F_compare.kp Tp.b_compare .nil pass0 (pa_cons (pe_ix (r := rIxT K) ix_tup (pe_ix (r := rIxT K) ix_tup (pv 1) (pv 2) (fun _ _ => rfl)) pe_int (fun _ _ => rfl)) (pa_cons (pe_ix (r := rIxT K) ix_tup (pe_ix (r := rIxT K) ix_tup (pv 0) (pv 2) (fun _ _ => rfl)) pe_int (fun _ _ => rfl)) pa_nil))) pe_int (nomark _)) (pe_one (pe_cmpR op_le (pe_call G_compare (hr.mono (by decide)) (by rfl) Tp.g_compare Tp.F_compare.kp Tp.b_compare .nil pass0 (pa_cons (pe_ix (r := rIxT K) ix_tup (pe_ix (r := rIxT K) ix_tup (pv 0) (pv 2) (fun _ _ => rfl)) pe_int (fun _ _ => rfl)) (pa_cons (pe_ix (r := rIxT K) ix_tup (pe_ix (r := rIxT K) ix_tup (pv 1) (pv 2) (fun _ _ => rfl)) pe_int (fun _ _ => rfl)) pa_nil))) pe_int (nomark _))))) (fun _ => rfl)))), body_T ?_ h⟩
  refine fun ds d r I hT => ?_
  obtain ⟨a, b, rfl, ha, hb, rfl⟩ := r
  walk_at "norm"
  refine p_ret (e_is (e_genT (T' := Tp.tabs) (P := Tp.tp_ends_meet) (ds := [.int 0, .int 1]) (ks := [(true, (le0 (cmpM b.p0 (plusM a.p0 a.s0)) 0 && le0 (cmpM a.p0 (plusM b.p0 b.s0)) 0)), (true, (le0 (cmpM b.p1 (plusM a.p1 a.s1)) 0 && le0 (cmpM a.p1 (plusM b.p1 b.s1)) 0))]) List.mem_cons_self (p_tup2 (by walk_at "ev")) rfl fun i x p hx hp => ?_) ?_)
  · match i, hx, hp with
    | 0, hx, hp =>
      obtain rfl := Option.some.inj hx
      obtain rfl := Option.some.inj hp
      exact ⟨_, w_name List.mem_cons_self, t_yes, fun _ => e_andV (p_le (p_call (R := RCmp) (ds := [.d (fr b.p0), .d (fr (plusM a.p0 a.s0))]) (p_cons (p_i0 (p_ixT (ds := [vcd b.p0 (plusM b.p0 b.s0), vcd b.p1 (plusM b.p1 b.s1)]) (i := 0) (e_var rfl) (e_var rfl) rfl)) (p_cons (p_i1 (p_ixT (ds := [vcd a.p0 (plusM a.p0 a.s0), vcd a.p1 (plusM a.p1 a.s1)]) (i := 0) (e_var rfl) (e_var rfl) rfl)) a_nil)) ⟨_, _, rfl, hb.p0.mono (by decide), ha.h0, rfl⟩) (by walk_at "ev")) fun _ => p_le (p_call (R := RCmp) (ds := [.d (fr a.p0), .d (fr (plusM b.p0 b.s0))]) (p_cons (p_i0 (p_ixT (ds := [vcd a.p0 (plusM a.p0 a.s0), vcd a.p1 (plusM a.p1 a.s1)]) (i := 0) (e_var rfl) (e_var rfl) rfl)) (p_cons (p_i1 (p_ixT (ds := [vcd b.p0 (plusM b.p0 b.s0), vcd b.p1 (plusM b.p1 b.s1)]) (i := 0) (e_var rfl) (e_var rfl) rfl)) a_nil)) ⟨_, _, rfl, ha.p0.mono (by decide), hb.h0, rfl⟩) (by walk_at "ev")⟩
    | 1, hx, hp =>
      obtain rfl := Option.some.inj hx
      obtain rfl := Option.some.inj hp
      exact ⟨_, w_name List.mem_cons_self, t_yes, fun _ => e_andV (p_le (p_call (R := RCmp) (ds := [.d (fr b.p1), .d (fr (plusM a.p1 a.s1))]) (p_cons (p_i0 (p_ixT (ds := [vcd b.p0 (plusM b.p0 b.s0), vcd b.p1 (plusM b.p1 b.s1)]) (i := 1) (e_var rfl) (e_var rfl) rfl)) (p_cons (p_i1 (p_ixT (ds := [vcd a.p0 (plusM a.p0 a.s0), vcd a.p1 (plusM a.p1 a.s1)]) (i := 1) (e_var rfl) (e_var rfl) rfl)) a_nil)) ⟨_, _, rfl, hb.p1.mono (by decide), ha.h1, rfl⟩) (by walk_at "ev")) fun _ => p_le (p_call (R := RCmp) (ds := [.d (fr a.p1), .d (fr (plusM b.p1 b.s1))]) (p_cons (p_i0 (p_ixT (ds := [vcd a.p0 (plusM a.p0 a.s0), vcd a.p1 (plusM a.p1 a.s1)]) (i := 1) (e_var rfl) (e_var rfl) rfl)) (p_cons (p_i1 (p_ixT (ds := [vcd b.p0 (plusM b.p0 b.s0), vcd b.p1 (plusM b.p1 b.s1)]) (i := 1) (e_var rfl) (e_var rfl) rfl)) a_nil)) ⟨_, _, rfl, ha.p1.mono (by decide), hb.h1, rfl⟩) (by walk_at "ev")⟩
    | n + 2, hx, hp => simp at hx
  · rw [gen_two]
    rfl
theorem fok_hull_of_ends (Tp : Top K mg base) : FnOk P w K mg base CX0 3 Tp.f_hull_of_ends Tp.d_hull_of_ends ["one", "other"] (spP K RHullE) := by
  have G_least := fok_least (P := P) (w := w) (base := base) Tp
  have G_greatest := fok_greatest (P := P) (w := w) (base := base) Tp
  refine Tp.F_hull_of_ends.ok sc_hull_of_ends (fun vs H Q E h => len_P (fun _ _ ⟨_, _, e, _⟩ => by rw [e]; rfl) h) (fun cdv A outer s H vs Q E hr h => ?_)
  refine ⟨_, (pss_one (ps_ret (pe_callTy call_tuple_of (by rfl) Tp.n_tuple (by decide +kernel) (pa_cons (pe_lc (own := [("low_one", 2), ("high_one", 3), ("low_other", 4), ("high_other", 5)]) (g := (gTup K 2 (gCons (gTup K 2 (gCons (gName 2) (gCons (gName 3) gNil))) (gCons (gTup K 2 (gCons (gName 4) (gCons (gName 5) gNil))) gNil)))) (tt := tYes) rfl sc_hull_of_ends.nd (RZ.pi_zipA (by rfl) Tp.n_zip (pa_cons (pv 0) (pa_cons (pv 1) pa_nil))) (blkOk_by (N := ["one", "other", "low_one", "high_one", "low_other", "high_other"]) (sc := defScope s_hull_of_ends) (by decide +kernel)) (fun _ _ _ _ _ => (pg_tup rfl (pgs_cons (pg_tup rfl (pgs_cons (pg_name (i := 2) sc_hull_of_ends.nd rfl (Or.inl rfl)) (pgs_cons (pg_name (i := 3) sc_hull_of_ends.nd rfl (Or.inl rfl)) pgs_nil))) (pgs_cons (pg_tup rfl (pgs_cons (pg_name (i := 4) sc_hull_of_ends.nd rfl (Or.inl rfl)) (pgs_cons (pg_name (i := 5) sc_hull_of_ends.nd rfl (Or.inl rfl)) pgs_nil))) pgs_nil)))) (fun _ _ _ _ _ => pts_nil) (fun _ _ _ _ _ => (pe_tup (pa_cons (pe_call G_least (hr.mono (by decide)) (by rfl) Tp.g_least Tp.F_least.kp Tp.b_least .nil pass0 (pa_cons (pe_tup (pa_cons (pv 2) (pa_cons (pv 4) pa_nil))) pa_nil)) (pa_cons (pe_call G_greatest (hr.mono (by decide)) (by rfl) Tp.g_greatest Tp.F_greatest.kp Tp.b_greatest .nil pass0 (pa_cons (pe_tup (pa_cons (pv 3) (pa_cons (pv 5) pa_nil))) pa_nil)) pa_nil))))) pa_nil)))), body_P ?_ h⟩
  refine fun ds d r I => ?_
  obtain ⟨a, b, rfl, ha, hb, rfl⟩ := r
  walk_at "norm"
  refine p_ret (e_tupOf (a_cons (e_lcW (es := [vcd (mn a.p0 b.p0) (mx (plusM a.p0 a.s0) (plusM b.p0 b.s0)), vcd (mn a.p1 b.p1) (mx (plusM a.p1 a.s1) (plusM b.p1 b.s1))]) (iw_zt (xs := [vcd a.p0 (plusM a.p0 a.s0), vcd a.p1 (plusM a.p1 a.s1)]) (ys := [vcd b.p0 (plusM b.p0 b.s0), vcd b.p1 (plusM b.p1 b.s1)]) (by walk_at "ev") rfl) rfl (show 2 ≤ 100000 by decide) fun i y hi hy => ?_) a_nil))
  match i, hi, hy with
  | 0, hi, hy =>
      obtain rfl := Option.some.inj hy
      exact ⟨_, w_tup rfl (w_cons (w_tup rfl (w_cons (w_name List.mem_cons_self) (w_cons (w_name (List.mem_cons_of_mem _ List.mem_cons_self)) w_nil))) (w_cons (w_tup rfl (w_cons (w_name (List.mem_cons_of_mem _ (List.mem_cons_of_mem _ List.mem_cons_self))) (w_cons (w_name (List.mem_cons_of_mem _ (List.mem_cons_of_mem _ (List.mem_cons_of_mem _ List.mem_cons_self)))) w_nil))) w_nil)), fun I => p_tup2 (p_cons (p_call (R := RBest less) (ds := [.t [fr a.p0, fr b.p0]]) (p_cons (p_tup2 (by walk_at "ev")) a_nil) ⟨a.p0, [b.p0], rfl, two_in (ha.p0.mono (by decide)) (hb.p0.mono (by decide)), rfl⟩) (p_cons (p_call (R := RBest more) (ds := [.t [fr (plusM a.p0 a.s0), fr (plusM b.p0 b.s0)]]) (p_cons (p_tup2 (by walk_at "ev")) a_nil) ⟨(plusM a.p0 a.s0), [(plusM b.p0 b.s0)], rfl, two_in ha.h0 hb.h0, rfl⟩) a_nil))⟩
  | 1, hi, hy =>
      obtain rfl := Option.some.inj hy
      exact ⟨_, w_tup rfl (w_cons (w_tup rfl (w_cons (w_name List.mem_cons_self) (w_cons (w_name (List.mem_cons_of_mem _ List.mem_cons_self)) w_nil))) (w_cons (w_tup rfl (w_cons (w_name (List.mem_cons_of_mem _ (List.mem_cons_of_mem _ List.mem_cons_self))) (w_cons (w_name (List.mem_cons_of_mem _ (List.mem_cons_of_mem _ (List.mem_cons_of_mem _ List.mem_cons_self)))) w_nil))) w_nil)), fun I => p_tup2 (p_cons (p_call (R := RBest less) (ds := [.t [fr a.p1, fr b.p1]]) (p_cons (p_tup2 (by walk_at "ev")) a_nil) ⟨a.p1, [b.p1], rfl, two_in (ha.p1.mono (by decide)) (hb.p1.mono (by decide)), rfl⟩) (p_cons (p_call (R := RBest more) (ds := [.t [fr (plusM a.p1 a.s1), fr (plusM b.p1 b.s1)]]) (p_cons (p_tup2 (by walk_at "ev")) a_nil) ⟨(plusM a.p1 a.s1), [(plusM b.p1 b.s1)], rfl, two_in ha.h1 hb.h1, rfl⟩) a_nil))⟩
  | n + 2, hi, hy => simp at hy
theorem fok_girth (Tp : Top K mg base) : FnOk P w K mg base CX0 3 Tp.f_girth Tp.d_girth ["ends"] (spP K RGirth) := by
  have G_plus := fok_plus (P := P) (w := w) (base := base) Tp
  have G_minus := fok_minus (P := P) (w := w) (base := base) Tp
  refine Tp.F_girth.ok sc_girth (fun vs H Q E h => len_P (fun _ _ ⟨_, e, _⟩ => by rw [e]; rfl) h) (fun cdv A outer s H vs Q E hr h => ?_)
  refine ⟨_, (pss_cons (ps_asg (pv 0) (pg_tup rfl (pgs_cons (pg_tup rfl (pgs_cons (pg_name (i := 1) sc_girth.nd rfl (.inl rfl)) (pgs_cons (pg_name (i := 2) sc_girth.nd rfl (.inl rfl)) pgs_nil))) (pgs_cons (pg_tup rfl (pgs_cons (pg_name (i := 3) sc_girth.nd rfl (.inl rfl)) (pgs_cons (pg_name (i := 4) sc_girth.nd rfl (.inl rfl)) pgs_nil))) pgs_nil))))
      (pss_one (ps_ret (pe_call G_plus (hr.mono (by decide)) (by rfl) Tp.g_plus Tp.F_plus.kp Tp.b_plus .nil pass0 (pa_cons (pe_call G_minus (hr.mono (by decide)) (by rfl) Tp.g_minus Tp.F_minus.kp Tp.b_minus .nil pass0 (pa_cons (pv 2) (pa_cons (pv 1) pa_nil))) (pa_cons (pe_call G_minus (hr.mono (by decide)) (by rfl) Tp.g_minus Tp.F_minus.kp Tp.b_minus .nil pass0 (pa_cons (pv 4) (pa_cons (pv 3) pa_nil))) pa_nil)))))), body_P ?_ h⟩
  refine fun ds d r I => ?_
  obtain ⟨e, rfl, h, rfl⟩ := r
  walk_at "norm"
  obtain ⟨o1, o2, o3, o4⟩ := h.o
  refine s_seq (s_asgG (x := enD e) (e_var rfl) (g_tup rfl (g_cons (g_tup rfl (g_cons g_name (g_cons g_name g_nil))) (g_cons (g_tup rfl (g_cons g_name (g_cons g_name g_nil))) g_nil)))) ?_
  walk_at "norm"
  exact p_ret (p_call (R := RPlus plusM) (ds := [.d (fr (minusM e.h0 e.l0)), .d (fr (minusM e.h1 e.l1))]) (p_cons (p_call (R := RPlus minusM) (ds := [.d (fr e.h0), .d (fr e.l0)]) (p_cons (e_var rfl) (p_cons (e_var rfl) a_nil)) (RPlus.mk o2 o1)) (p_cons (p_call (R := RPlus minusM) (ds := [.d (fr e.h1), .d (fr e.l1)]) (p_cons (e_var rfl) (p_cons (e_var rfl) a_nil)) (RPlus.mk o4 o3)) a_nil)) (RPlus.mk (PL.ok_minus o2 o1) (PL.ok_minus o4 o3)))
theorem fok_passing (Tp : Top K mg base) : FnOk P w K mg base (L2.CX P w) 3 Tp.f_passing Tp.d_passing ["low", "high", "way"] (spX K RPassing) := by
  have G_over := fok_over (P := P) (w := w) (base := base) Tp
  refine Tp.F_passing.okX sc_passing (fun vs H Q E h => len_X (fun _ _ ⟨_, _, _, e, _⟩ => by rw [e]; rfl) h) (fun cdv A outer s H vs Q E hr h => ?_)
  refine ⟨_, (pss_cons (ps_set (i := 3) sc_passing.nd rfl (.inl rfl) (pe_call G_over (hr.mono (by decide)) (by rfl) Tp.g_over Tp.F_over.kp Tp.b_over .nil (passes_call (takes_of rfl rfl rfl rfl) (fun _ _ _ _ z => z)) (pa_cons (pv 0) (pa_cons (pv 2) pa_nil))))
      (pss_cons (ps_set (i := 4) sc_passing.nd rfl (.inl rfl) (pe_call G_over (hr.mono (by decide)) (by rfl) Tp.g_over Tp.F_over.kp Tp.b_over .nil (passes_call (takes_of rfl rfl rfl rfl) (fun _ _ _ _ z => z)) (pa_cons (pv 1) (pa_cons (pv 2) pa_nil))))
      (pss_cons (ps_if (pt_cmpR op_gt (pe_ix (r := rIxT K) ix_tup (pv 2) pe_int (fun _ _ => rfl)) pe_int (nomark _)) (pss_one (ps_ret (pe_tup (pa_cons (pv 3) (pa_cons (pv 4) pa_nil))))) pss_nil)
      (pss_one (ps_ret (pe_tup (pa_cons (pv 4) (pa_cons (pv 3) pa_nil)))))))), body_X ?_ h⟩
  refine fun ds r hr I hx => ?_
  obtain ⟨lo, hi, w, rfl, h1, h2, h3, h0, rfl⟩ := hr
  walk_at "norm"
  refine q_asg (d := .d (fr (overM lo w))) (e_callX (R := ROver Tp.c_ZeroDenominator) (ds := [.d (fr lo), .d (fr w)]) (by walk_at "ev") ⟨_, _, rfl, h1, h3, .inl ⟨h0, rfl⟩⟩) ?_
  refine q_asg (d := .d (fr (overM hi w))) (e_callX (R := ROver Tp.c_ZeroDenominator) (ds := [.d (fr hi), .d (fr w)]) (by walk_at "ev") ⟨_, _, rfl, h2, h3, .inl ⟨h0, rfl⟩⟩) ?_
  unfold spanOf
  by_cases c : 0 < w.1
  · rw [if_pos c]
    exact s_stop (q_ifT (p_test (p_gt (i := w.1) (j := 0) (by walk_at "ev") (by walk_at "ev"))) (decide_eq_true c) (p_ret (p_tup2 (by walk_at "ev"))))
  · rw [if_neg c]
    exact q_skip (p_test (p_gt (i := w.1) (j := 0) (by walk_at "ev") (by walk_at "ev"))) (decide_eq_false c) (p_ret (p_tup2 (by walk_at "ev")))
theorem fok_common_span (Tp : Top K mg base) : FnOk P w K mg base CX0 3 Tp.f_common_span Tp.d_common_span ["spans"] (spP K RCommon) := by
  have G_greatest := fok_greatest (P := P) (w := w) (base := base) Tp
  have G_least := fok_least (P := P) (w := w) (base := base) Tp
  refine Tp.F_common_span.ok sc_common_span (fun vs H Q E h => len_P (fun _ _ z => by obtain ⟨_, e, _⟩ := z; rw [e]; rfl) h) (fun cdv A outer s H vs Q E hr h => ?_)
  refine ⟨_, (pss_cons (ps_set (i := 1) sc_common_span.nd rfl (.inl rfl) (pe_glob (v := .ref Tp.k_ZERO) (by rfl) Tp.gk_ZERO rfl))
      (pss_cons (ps_set (i := 2) sc_common_span.nd rfl (.inl rfl) (pe_glob (v := .ref Tp.k_ONE) (by rfl) Tp.gk_ONE rfl))
      (pss_cons (ps_for PassesOwn.never rfl (pi_list (pv 0)) (pg_tup rfl (pgs_cons (pg_name (i := 3) sc_common_span.nd rfl (.inl rfl)) (pgs_cons (pg_name (i := 4) sc_common_span.nd rfl (.inl rfl)) pgs_nil))) (pss_cons (ps_set (i := 1) sc_common_span.nd rfl (.inl rfl) (pe_call G_greatest (hr.mono (by decide)) (by rfl) Tp.g_greatest Tp.F_greatest.kp Tp.b_greatest .nil pass0 (pa_cons (pe_tup (pa_cons (pv 1) (pa_cons (pv 3) pa_nil))) pa_nil)))
      (pss_one (ps_set (i := 2) sc_common_span.nd rfl (.inl rfl) (pe_call G_least (hr.mono (by decide)) (by rfl) Tp.g_least Tp.F_least.kp Tp.b_least .nil pass0 (pa_cons (pe_tup (pa_cons (pv 2) (pa_cons (pv 4) pa_nil))) pa_nil))))))
      (pss_one (ps_ret (pe_tup (pa_cons (pv 1) (pa_cons (pv 2) pa_nil)))))))), body_P ?_ h⟩
  refine fun ds d r I => ?_
  obtain ⟨sp, rfl, hs, rfl⟩ := r
  walk_at "norm"
  refine q_asg (d := .d (fr (0, 1))) (e_glob (dp_const Tp.dk_ZERO fun G => .cons (.int 0) (.cons (.int 1) .nil))) ?_
  refine q_asg (d := .d (fr (1, 1))) (e_glob (dp_const Tp.dk_ONE fun G => .cons (.int 1) (.cons (.int 1) .nil))) ?_
  have len : (sp.map pr).length = sp.length := by simp
  refine s_seq (s_forLG (ds := sp.map pr) (P := fun i => [some (.d (.list (sp.map pr))), some (.d (fr (fstM (sp.take i)))), some (.d (fr (lstM (sp.take i)))), none, none]) (V := fun _ => I) (e_var rfl) rfl (Turns.all fun i x hi hx => ?_)) (p_ret (e_is (p_tup2 (by walk_at "ev")) ?_))
  rotate_left
  · rw [len, List.take_length]
  · have hx' : (sp.map pr)[i]? = some x := hx
    rw [List.getElem?_map, Option.map_eq_some_iff] at hx'
    obtain ⟨s, hs', rfl⟩ := hx'
    have sm := List.mem_of_getElem? hs'
    refine ⟨_, g_tup rfl (g_cons g_name (g_cons g_name g_nil)), ?_⟩
    have e1 : fstM (sp.take (i + 1)) = mx (fstM (sp.take i)) s.1 := by
      rw [List.take_add_one, hs']
      unfold fstM
      rw [List.foldl_append]
      rfl
    have e2 : lstM (sp.take (i + 1)) = mn (lstM (sp.take i)) s.2 := by
      rw [List.take_add_one, hs']
      unfold lstM
      rw [List.foldl_append]
      rfl
    have o1 : PL.Ok 4000 (fstM (sp.take i)) := fst_in (fun s hs'' => (hs s (List.mem_of_mem_take hs'')).1)
    have o2 : PL.Ok 4000 (lstM (sp.take i)) := lst_in (fun s hs'' => (hs s (List.mem_of_mem_take hs'')).2)
    rw [e1, e2]
    generalize fstM (sp.take i) = f at *
    generalize lstM (sp.take i) = l at *
    refine s_lessN (ρ' := [some (.d (.list (sp.map pr))), some (.d (fr (mx f s.1))), some (.d (fr (mn l s.2))), some (.d (fr s.1)), some (.d (fr s.2))]) ⟨.inr rfl, .inr rfl, .inr rfl, .inl rfl, .inl rfl, trivial⟩ ?_
    refine q_asg (d := .d (fr (mx f s.1))) (p_call (R := RBest more) (ds := [.t [fr f, fr s.1]]) (p_cons (p_tup2 (by walk_at "ev")) a_nil) ⟨f, [s.1], rfl, ?_, rfl⟩) ?_
    · intro y hy
      rcases List.mem_cons.mp hy with rfl | hy
      · exact o1
      · rw [List.mem_singleton.mp hy]
        exact (hs s sm).1
    · refine p_asg (d := .d (fr (mn l s.2))) (p_call (R := RBest less) (ds := [.t [fr l, fr s.2]]) (p_cons (p_tup2 (by walk_at "ev")) a_nil) ⟨l, [s.2], rfl, ?_, rfl⟩)
      intro y hy
      rcases List.mem_cons.mp hy with rfl | hy
      · exact o2
      · rw [List.mem_singleton.mp hy]
        exact (hs s sm).2
theorem fok_law_plus (Tp : Top K mg base) : FnOk P w K mg base CX0 3 Tp.f_law_plus Tp.d_law_plus ["a", "b"] (spP K (RPlus lplus)) := by
  have G_law_f := fok_law_f (P := P) (w := w) (base := base) Tp
  refine Tp.F_law_plus.ok sc_law_plus (fun vs H Q E h => len_P (fun _ _ z => z.len) h) (fun cdv A outer s H vs Q E hr h => ?_)
  refine ⟨_, (pss_one (ps_ret (pe_call G_law_f (hr.mono (by decide)) (by rfl) Tp.g_law_f Tp.F_law_f.kp Tp.b_law_f .nil pass0 (pa_cons (pe_op op_add (pe_op op_mulW (pe_ix (r := rIxT K) ix_tup (pv 0) pe_int (fun _ _ => rfl)) (pe_ix (r := rIxT K) ix_tup (pv 1) pe_int (fun _ _ => rfl))) (pe_op op_mulW (pe_ix (r := rIxT K) ix_tup (pv 1) pe_int (fun _ _ => rfl)) (pe_ix (r := rIxT K) ix_tup (pv 0) pe_int (fun _ _ => rfl)))) (pa_cons (pe_op op_mulW (pe_ix (r := rIxT K) ix_tup (pv 0) pe_int (fun _ _ => rfl)) (pe_ix (r := rIxT K) ix_tup (pv 1) pe_int (fun _ _ => rfl))) pa_nil))))), body_P ?_ h⟩
  refine fun ds d r I => ?_
  obtain ⟨a, b, rfl, ha, hb, rfl⟩ := r
  walk_at "norm"
  have pa := ha.nrm.1
  have pb := hb.nrm.1
  
  have na : a.2 ≠ 0 := by omega
  have nb : b.2 ≠ 0 := by omega
  have n2 : a.2 * b.2 ≠ 0 := Int.mul_ne_zero na nb
  refine p_ret (p_call (R := RF) (ds := [.i (a.1 * b.2 + b.1 * a.2), .i (a.2 * b.2)]) ?_ (RF.mk (m := 8001) (n := 8000) n2 (sz_add (m := 8000) (sz_mul ha.sz.1 hb.sz.2) (sz_mul hb.sz.1 ha.sz.2)) (sz_mul ha.sz.2 hb.sz.2) (by decide) (by decide)))
  walk_at "ev"
  all_goals first | exact mulW ha.sz.1 hb.sz.1 (by decide) | exact mulW ha.sz.1 hb.sz.2 (by decide) | exact mulW hb.sz.1 ha.sz.2 (by decide) | exact mulW ha.sz.2 hb.sz.2 (by decide)
theorem fok_law_minus (Tp : Top K mg base) : FnOk P w K mg base CX0 3 Tp.f_law_minus Tp.d_law_minus ["a", "b"] (spP K (RPlus lminus)) := by
  have G_law_f := fok_law_f (P := P) (w := w) (base := base) Tp
  refine Tp.F_law_minus.ok sc_law_minus (fun vs H Q E h => len_P (fun _ _ z => z.len) h) (fun cdv A outer s H vs Q E hr h => ?_)
  refine ⟨_, (pss_one (ps_ret (pe_call G_law_f (hr.mono (by decide)) (by rfl) Tp.g_law_f Tp.F_law_f.kp Tp.b_law_f .nil pass0 (pa_cons (pe_op op_sub (pe_op op_mulW (pe_ix (r := rIxT K) ix_tup (pv 0) pe_int (fun _ _ => rfl)) (pe_ix (r := rIxT K) ix_tup (pv 1) pe_int (fun _ _ => rfl))) (pe_op op_mulW (pe_ix (r := rIxT K) ix_tup (pv 1) pe_int (fun _ _ => rfl)) (pe_ix (r := rIxT K) ix_tup (pv 0) pe_int (fun _ _ => rfl)))) (pa_cons (pe_op op_mulW (pe_ix (r := rIxT K) ix_tup (pv 0) pe_int (fun _ _ => rfl)) (pe_ix (r := rIxT K) ix_tup (pv 1) pe_int (fun _ _ => rfl))) pa_nil))))), body_P ?_ h⟩
  refine fun ds d r I => ?_
  obtain ⟨a, b, rfl, ha, hb, rfl⟩ := r
  walk_at "norm"
  have pa := ha.nrm.1
  have pb := hb.nrm.1
  
  have na : a.2 ≠ 0 := by omega
  have nb : b.2 ≠ 0 := by omega
  have n2 : a.2 * b.2 ≠ 0 := Int.mul_ne_zero na nb
  refine p_ret (p_call (R := RF) (ds := [.i (a.1 * b.2 - b.1 * a.2), .i (a.2 * b.2)]) ?_ (RF.mk (m := 8001) (n := 8000) n2 (sz_sub (m := 8000) (sz_mul ha.sz.1 hb.sz.2) (sz_mul hb.sz.1 ha.sz.2)) (sz_mul ha.sz.2 hb.sz.2) (by decide) (by decide)))
  walk_at "ev"
  all_goals first | exact mulW ha.sz.1 hb.sz.1 (by decide) | exact mulW ha.sz.1 hb.sz.2 (by decide) | exact mulW hb.sz.1 ha.sz.2 (by decide) | exact mulW ha.sz.2 hb.sz.2 (by decide)
theorem fok_law_part (Tp : Top K mg base) : FnOk P w K mg base CX0 3 Tp.f_law_part Tp.d_law_part ["d", "most"] (spW K RPart) := by
  have G_law_f := fok_law_f (P := P) (w := w) (base := base) Tp
  have G_law_signed := fok_law_signed (P := P) (w := w) (base := base) Tp
  have G_law_take := fok_law_take (P := P) (w := w) (base := base) Tp
  refine Tp.F_law_part.ok sc_law_part (fun vs H Q E h => len_W (fun _ _ _ _ ⟨_, e, _⟩ => by rw [e]; rfl) h) (fun cdv A outer s H vs Q E hr h => ?_)
  refine ⟨_, (pss_one (ps_ret (pe_call G_law_f (hr.mono (by decide)) (by rfl) Tp.g_law_f Tp.F_law_f.kp Tp.b_law_f .nil pass0 (pa_cons (pe_call G_law_signed (hr.mono (by decide)) (by rfl) Tp.g_law_signed Tp.F_law_signed.kp Tp.b_law_signed .nil pass0 (pa_cons (pv 0) (pa_cons (pe_op op_mulW (pv 1) pe_int) pa_nil))) (pa_cons (pe_op op_add pe_int (pe_call G_law_take (hr.mono (by decide)) (by rfl) Tp.g_law_take Tp.F_law_take.kp Tp.b_law_take .nil pass0 (pa_cons (pv 0) (pa_cons pe_int pa_nil)))) pa_nil))))), body_W ?_ h⟩
  refine fun ds C d C' r p J hf => ?_
  obtain ⟨m, rfl, ok, hm, hz, rfl, rfl⟩ := r
  walk_at "norm"
  have z2 : (m * 2).natAbs < 2 ^ 7002 := sz_mul (n := 2) hz (by decide)
  obtain ⟨o1, b1, b2⟩ := take_ok (C := C) (m := 2 * (m * 2) + 1) ok (by omega)
  obtain ⟨o2, b3, b4⟩ := take_ok (C := (take C (2 * (m * 2) + 1)).2) (m := 3) o1 (by omega)
  refine s_ret (e_call (R := RF) (a_cons (e_draw (R := RSigned) (ds := [.i (m * 2)]) (C := C) (p_cons (e_var rfl) (p_cons (p_mul (e_var rfl) e_int (mulW (m := 7000) (n := 2) hz (by decide) (by decide))) a_nil)) ⟨_, rfl, ok, by omega, sz_le z2 (by decide), rfl, rfl⟩ hf)
    (a_cons (e_add e_int (e_draw (R := RTake) (ds := [.i 3]) (p_cons (e_var rfl) (p_cons e_int a_nil)) ⟨_, rfl, o1, by decide, Nat.lt_of_lt_of_le (show (3 : Int).natAbs < 2 ^ 2 by decide) (Nat.pow_le_pow_right (by decide) (by decide)), rfl, rfl⟩ hf)) a_nil)) ?_)
  refine RF.mk (m := 7010) (n := 7010) (by omega) ?_ ?_ (by decide) (by decide)
  · have : (2 : Nat) ^ 7010 = 2 ^ 7002 * 256 := by decide +kernel
    omega
  · refine Nat.lt_of_lt_of_le (show _ < 2 ^ 3 by omega) (Nat.pow_le_pow_right (by decide) (by decide))
theorem fok_law_size (Tp : Top K mg base) : FnOk P w K mg base CX0 3 Tp.f_law_size Tp.d_law_size ["d"] (spW K RSize) := by
  have G_law_f := fok_law_f (P := P) (w := w) (base := base) Tp
  have G_law_take := fok_law_take (P := P) (w := w) (base := base) Tp
  refine Tp.F_law_size.ok sc_law_size (fun vs H Q E h => len_W (fun _ _ _ _ z => by obtain ⟨e, _⟩ := z; rw [e]; rfl) h) (fun cdv A outer s H vs Q E hr h => ?_)
  refine ⟨_, (pss_one (ps_ret (pe_tup (pa_cons (pe_call G_law_f (hr.mono (by decide)) (by rfl) Tp.g_law_f Tp.F_law_f.kp Tp.b_law_f .nil pass0 (pa_cons (pe_op op_add pe_int (pe_call G_law_take (hr.mono (by decide)) (by rfl) Tp.g_law_take Tp.F_law_take.kp Tp.b_law_take .nil pass0 (pa_cons (pv 0) (pa_cons pe_int pa_nil)))) (pa_cons (pe_op op_add pe_int (pe_call G_law_take (hr.mono (by decide)) (by rfl) Tp.g_law_take Tp.F_law_take.kp Tp.b_law_take .nil pass0 (pa_cons (pv 0) (pa_cons pe_int pa_nil)))) pa_nil))) (pa_cons (pe_call G_law_f (hr.mono (by decide)) (by rfl) Tp.g_law_f Tp.F_law_f.kp Tp.b_law_f .nil pass0 (pa_cons (pe_op op_add pe_int (pe_call G_law_take (hr.mono (by decide)) (by rfl) Tp.g_law_take Tp.F_law_take.kp Tp.b_law_take .nil pass0 (pa_cons (pv 0) (pa_cons pe_int pa_nil)))) (pa_cons (pe_op op_add pe_int (pe_call G_law_take (hr.mono (by decide)) (by rfl) Tp.g_law_take Tp.F_law_take.kp Tp.b_law_take .nil pass0 (pa_cons (pv 0) (pa_cons pe_int pa_nil)))) pa_nil))) pa_nil))))), body_W ?_ h⟩
  refine fun ds C d C' r p J hf => ?_
  obtain ⟨rfl, ok, rfl, rfl⟩ := r
  walk_at "norm"
  obtain ⟨o1, a1, a2⟩ := take_ok (C := C) (m := 6) ok (by decide)
  obtain ⟨o2, b1, b2⟩ := take_ok (C := (take C 6).2) (m := 2) o1 (by decide)
  obtain ⟨o3, c1, c2⟩ := take_ok (C := (take (take C 6).2 2).2) (m := 6) o2 (by decide)
  obtain ⟨o4, e1, e2⟩ := take_ok (C := (take (take (take C 6).2 2).2 6).2) (m := 2) o3 (by decide)
  have z6 : (6 : Int).natAbs < 2 ^ 8500 := sz_le (m := 3) (by decide) (by decide)
  have z2 : (2 : Int).natAbs < 2 ^ 8500 := sz_le (m := 3) (by decide) (by decide)
  exact s_ret (e_tup (a_cons (e_call (R := RF) (a_cons (e_add e_int (e_draw (R := RTake) (ds := [.i 6]) (C := C) (by walk_at "ev") ⟨_, rfl, ok, by decide, z6, rfl, rfl⟩ hf)) (a_cons (e_add e_int (e_draw (R := RTake) (ds := [.i 2]) (by walk_at "ev") ⟨_, rfl, o1, by decide, z2, rfl, rfl⟩ hf)) a_nil)) (RF.mk (m := 10) (n := 10) (by omega) (by omega) (by omega) (by decide) (by decide)))
    (a_cons (e_call (R := RF) (a_cons (e_add e_int (e_draw (R := RTake) (ds := [.i 6]) (by walk_at "ev") ⟨_, rfl, o2, by decide, z6, rfl, rfl⟩ hf)) (a_cons (e_add e_int (e_draw (R := RTake) (ds := [.i 2]) (by walk_at "ev") ⟨_, rfl, o3, by decide, z2, rfl, rfl⟩ hf)) a_nil)) (RF.mk (m := 10) (n := 10) (by omega) (by omega) (by omega) (by decide) (by decide))) a_nil)) (.cons (.cons .nil)) (show 2 ≤ 100000 by decide))
theorem fok_branch_of (Tp : Top K mg base) : FnOk P w K mg base CX0 4 Tp.f_branch_of Tp.d_branch_of ["one", "other"] (spP K RBr) := by
  have G_hull_of_ends := fok_hull_of_ends (P := P) (w := w) (base := base) Tp
  refine Tp.F_branch_of.ok sc_branch_of (fun vs H Q E h => len_P (fun _ _ ⟨_, _, e, _⟩ => by rw [e]; rfl) h) (fun cdv A outer s H vs Q E hr h => ?_)
  refine ⟨_, (pss_one (ps_ret (pe_tup (pa_cons (pe_call G_hull_of_ends (hr.mono (by decide)) (by rfl) Tp.g_hull_of_ends Tp.F_hull_of_ends.kp Tp.b_hull_of_ends .nil pass0 (pa_cons (pe_ix (r := rIxT K) ix_tup (pv 0) pe_int (fun _ _ => rfl)) (pa_cons (pe_ix (r := rIxT K) ix_tup (pv 1) pe_int (fun _ _ => rfl)) pa_nil))) (pa_cons (pe_op op_add pe_int (pe_callB (call_max2 (by rfl)) (by rfl) Tp.n_max (by decide +kernel) (pa_cons (pe_ix (r := rIxT K) ix_tup (pv 0) pe_int (fun _ _ => rfl)) (pa_cons (pe_ix (r := rIxT K) ix_tup (pv 1) pe_int (fun _ _ => rfl)) pa_nil)))) (pa_cons pe_non (pa_cons (pe_tup (pa_cons (pv 0) (pa_cons (pv 1) pa_nil))) pa_nil))))))), body_P ?_ h⟩
  refine fun ds d r I => ?_
  obtain ⟨x, y, rfl, hx, hy, rfl⟩ := r
  walk_at "norm"
  obtain ⟨nx, cx, ex⟩ := nd_tup x
  obtain ⟨ny, cy, ey⟩ := nd_tup y
  have goal : ndD (brM x y) = .tuple [enD (hullE x.en y.en), .int ((1 + max x.ht y.ht : Nat) : Nat), .none, .tuple [ndD x, ndD y]] := rfl
  rw [goal]
  refine p_ret (p_tup (ds := [.d (enD (hullE x.en y.en)), .i ((1 + max x.ht y.ht : Nat) : Nat), .d .none, .t [ndD x, ndD y]]) (p_cons (p_call (R := RHullE) (ds := [.d (enD x.en), .d (enD y.en)]) (p_cons (p_i0 (e_var (by rw [ex]; rfl))) (p_cons (p_i0 (e_var (by rw [ey]; rfl))) a_nil)) (rh_en hx.en hy.en)) (p_cons (e_is (p_add (i := 1) (j := if ((x.ht : Nat) : Int) < ((y.ht : Nat) : Int) then ((y.ht : Nat) : Int) else ((x.ht : Nat) : Int)) e_int (e_max2 (p_cons (p_i1 (e_var (by rw [ex]; rfl))) (p_cons (p_i1 (e_var (by rw [ey]; rfl))) a_nil)))) ?_) (p_cons e_non (p_cons (p_tup2 (p_cons (e_var rfl) (p_cons (e_var rfl) a_nil))) a_nil)))) (.cons (.cons (.cons (.cons .nil)))) (show 4 ≤ 100000 by decide))
  congr 2
  split <;> omega
theorem fok_growth (Tp : Top K mg base) : FnOk P w K mg base CX0 4 Tp.f_growth Tp.d_growth ["node", "leaf"] (spP K RGrow) := by
  have G_minus := fok_minus (P := P) (w := w) (base := base) Tp
  have G_girth := fok_girth (P := P) (w := w) (base := base) Tp
  have G_hull_of_ends := fok_hull_of_ends (P := P) (w := w) (base := base) Tp
  refine Tp.F_growth.ok sc_growth (fun vs H Q E h => len_P (fun _ _ ⟨_, _, _, e, _⟩ => by rw [e]; rfl) h) (fun cdv A outer s H vs Q E hr h => ?_)
  refine ⟨_, (pss_one (ps_ret (pe_call G_minus (hr.mono (by decide)) (by rfl) Tp.g_minus Tp.F_minus.kp Tp.b_minus .nil pass0 (pa_cons (pe_call G_girth (hr.mono (by decide)) (by rfl) Tp.g_girth Tp.F_girth.kp Tp.b_girth .nil pass0 (pa_cons (pe_call G_hull_of_ends (hr.mono (by decide)) (by rfl) Tp.g_hull_of_ends Tp.F_hull_of_ends.kp Tp.b_hull_of_ends .nil pass0 (pa_cons (pe_ix (r := rIxT K) ix_tup (pv 0) pe_int (fun _ _ => rfl)) (pa_cons (pe_ix (r := rIxT K) ix_tup (pv 1) pe_int (fun _ _ => rfl)) pa_nil))) pa_nil)) (pa_cons (pe_call G_girth (hr.mono (by decide)) (by rfl) Tp.g_girth Tp.F_girth.kp Tp.b_girth .nil pass0 (pa_cons (pe_ix (r := rIxT K) ix_tup (pv 0) pe_int (fun _ _ => rfl)) pa_nil)) pa_nil))))), body_P ?_ h⟩
  refine fun ds d r I => ?_
  obtain ⟨t, n, e, rfl, h, he, rfl⟩ := r
  walk_at "norm"
  obtain ⟨nx, cx, ex⟩ := nd_tup t
  have hu := (hull_ok h.en he).1
  have g1 := girth_ok hu
  have g2 := girth_ok h.en
  exact p_ret (p_call (R := RPlus minusM) (ds := [.d (fr (girthM (hullE t.en e))), .d (fr (girthM t.en))]) (p_cons (p_call (R := RGirth) (ds := [.d (enD (hullE t.en e))]) (p_cons (p_call (R := RHullE) (ds := [.d (enD t.en), .d (enD e)]) (p_cons (p_i0 (e_var (by rw [ex]; rfl))) (p_cons (p_i0 (e_var rfl)) a_nil)) (rh_en h.en he)) a_nil) ⟨_, rfl, hu, rfl⟩) (p_cons (p_call (R := RGirth) (ds := [.d (enD t.en)]) (p_cons (p_i0 (e_var (by rw [ex]; rfl))) a_nil) ⟨_, rfl, h.en, rfl⟩) a_nil)) (RPlus.mk g1 g2))
theorem fok_names_meeting (Tp : Top K mg base) : FnOk P w K mg base CX0 4 Tp.f_names_meeting Tp.d_names_meeting ["top", "ends"] (spT K Tp.tabs RMet) := by
  have G_nodes_from := fok_nodes_from (P := P) (w := w) (base := base) Tp
  have G_ends_meet := fok_ends_meet (P := P) (w := w) (base := base) Tp
  refine Tp.F_names_meeting.ok sc_names_meeting (fun vs H Q E h => len_P (fun _ _ ⟨_, _, e, _⟩ => by rw [e]; rfl) h) (fun cdv A outer s H vs Q E hr h => ?_)
  refine ⟨_, (pss_cons (ps_set (i := 2) sc_names_meeting.nd rfl (.inl rfl) (pe_lst pa_nil))
      (pss_cons (ps_set (i := 3) sc_names_meeting.nd rfl (.inl rfl) (pe_call G_nodes_from (hr.mono (by decide)) (by rfl) Tp.g_nodes_from Tp.F_nodes_from.kp Tp.b_nodes_from .nil pass0 (pa_cons (pv 0) pa_nil)))
      (pss_cons (ps_while PassesOwn.never (pt_cmpR (op_neD hr.units) (pv 3) (pe_lst pa_nil) (nomark _)) (pss_cons (ps_asg (pe_bm0 PySem.F.plainAttrs_list PySem.F.slot_list_pop PySem.F.type_list_pop mt_pop (pv 3)) (pg_tup rfl (pgs_cons (pg_name (i := 4) sc_names_meeting.nd rfl (.inl rfl)) (pgs_cons (pg_name (i := 5) sc_names_meeting.nd rfl (.inl rfl)) (pgs_cons (pg_name (i := 6) sc_names_meeting.nd rfl (.inl rfl)) (pgs_cons (pg_name (i := 7) sc_names_meeting.nd rfl (.inl rfl)) pgs_nil))))))
      (pss_one (ps_if (pt_val (pe_call G_ends_meet (hr.mono (by decide)) (by rfl) Tp.g_ends_meet Tp.F_ends_meet.kp Tp.b_ends_meet .nil pass0 (pa_cons (pv 4) (pa_cons (pv 1) pa_nil)))) (pss_cons (ps_expr (pe_bm PySem.F.plainAttrs_list PySem.F.slot_list_extend PySem.F.type_list_extend mt_extendT (pv 3) (pa_cons (pv 7) pa_nil)))
      (pss_one (ps_if (pt_cmpR op_notN (pv 6) pe_non (nomark _)) (pss_one (ps_expr (pe_bm PySem.F.plainAttrs_list PySem.F.slot_list_append PySem.F.type_list_append mt_append (pv 2) (pa_cons (pv 6) pa_nil)))) pss_nil))) pss_nil))))
      (pss_one (ps_ret (pe_callB cr_sortedI (by rfl) Tp.n_sorted (by decide +kernel) (pa_cons (pv 2) pa_nil))))))), body_T ?_ h⟩
  refine fun ds d r I hT => ?_
  obtain ⟨o, q, rfl, ho, hl, hq, rfl⟩ := r
  walk_at "norm"
  refine s_newL fun qf nf => ?_
  walk_at "norm"
  refine s_asgN (en_callL (R := RFrom K) (ds := [.d (topD o)]) (xs := (nodesO o).map ndD) (p_cons (e_var rfl) a_nil) ⟨o, rfl, rfl, rfl⟩) fun d2 L2 ⟨qw, nw, e1, e2⟩ => ?_
  subst e1 e2
  walk_at "norm"
  have nwf : qw ≠ qf := fun z => nw (.inl z)
  have nwI : ¬ I.foot qw := fun z => nw (.inr z)
  have ls0 : lvL (nodesO o) = lvsO o := by
    cases o with
    | none => rfl
    | some t => exact lv_one t
  refine s_whileC (α := List Int × List Nd) (fun s => MetW (lvsO o) q s.1 s.2) (fun _ => [some (.d (topD o)), some (.d (enD q)), some (.r qf), some (.r qw), none, none, none, none]) (fun s => (lJ K qw ((s.2).map ndD) (lJ K qf ((s.1).map PyData.int) I))) (fun s => szL s.2) ([], nodesO o) ⟨?_, by rw [ls0, List.nil_append], by rw [ls0]; exact hl, Nat.zero_le _⟩ fun s w => ?_
  · intro t ht
    cases o with
    | none => cases ht
    | some u =>
      rw [List.mem_singleton.mp ht]
      exact ho u rfl
  obtain ⟨fd, st⟩ := s
  have w : MetW (lvsO o) q fd st := w
  have sh := shaped_st w.ok w.le
  rcases List.eq_nil_or_concat st with rfl | ⟨st0, t, rfl⟩
  · refine .inr ⟨t_is (t_test (e_neR (ds := List.map ndD []) rfl sh)) ne_nil_ff, ?_⟩
    have pm : fd.Perm (metL (lvsO o) q) := by
      have := w.pm
      have e : metL (lvL []) q = [] := rfl
      rw [e, List.append_nil] at this
      exact this
    exact s_rtP (J := (lJ K qw (([]).map ndD) (lJ K qf ((fd).map PyData.int) I))) (fun _ _ z => z.2.2) (s_ret (e_sortIR (ns := fd) (q := qf) (a_cons (e_var rfl) a_nil) (fun G H z => z.2.1) ((srtI_perm _).trans pm.symm) (srtI_up _)))
  rw [List.concat_eq_append] at w sh ⊢
  have ot := w.ok t (List.mem_append_right _ List.mem_cons_self)
  have l0 : (lvL st0).length + t.lvs.length ≤ 30 := by
    have := w.le
    rw [lv_app, lv_one, List.length_append] at this
    exact this
  have sz0 : szL st0 < szL (st0 ++ [t]) := by
    rw [sz_app]
    have := (sz_le t).1
    show szL st0 < szL st0 + (t.sz + 0)
    omega
  have st0l : st0.length ≤ 30 := by
    have : ∀ xs : List Nd, (∀ c ∈ xs, NdOk c) → xs.length ≤ (lvL xs).length := by
      intro xs
      induction xs with
      | nil => exact fun _ => Nat.le_refl _
      | cons c xs ih =>
        intro h
        have e : lvL (c :: xs) = c.lvs ++ lvL xs := rfl
        have p := (h c List.mem_cons_self).pos
        have := ih fun d hd => h d (List.mem_cons_of_mem _ hd)
        rw [e, List.length_append, List.length_cons]
        omega
    have := this st0 fun c hc => w.ok c (List.mem_append_left _ hc)
    omega
  refine .inl ⟨t_is (t_test (e_neR rfl sh)) (by rw [List.map_append]; exact ne_nil_tt _ _), ?_⟩
  have pop : ∀ nm ch, ndD t = .tuple [enD t.en, .int (t.ht : Nat), nm, ch] → S K (tAsg (tBM0 K "list" rPop (tVar 3)) (gTup K 4 (gCons (gName 4) (gCons (gName 5) (gCons (gName 6) (gCons (gName 7) gNil)))))) [some (.d (topD o)), some (.d (enD q)), some (.r qf), some (.r qw), none, none, none, none] (lJ K qw ((st0 ++ [t]).map ndD) (lJ K qf ((fd).map PyData.int) I)) (.nx [some (.d (topD o)), some (.d (enD q)), some (.r qf), some (.r qw), some (.d (enD t.en)), some (.i (t.ht : Nat)), some (.d nm), some (.d ch)] (lJ K qw ((st0).map ndD) (lJ K qf ((fd).map PyData.int) I))) := fun nm ch e => by
    have z := e_popL (K := K) (ρ := [some (.d (topD o)), some (.d (enD q)), some (.r qf), some (.r qw), none, none, none, none]) (J := lJ K qf (fd.map PyData.int) I) (q := qw) (ds := (st0 ++ [t]).map ndD) (x := ndD t) (i := 3) rfl (by rw [List.map_append]; exact List.getLast?_concat) nw
    rw [List.map_append, show List.map ndD [t] = [ndD t] from rfl, List.dropLast_concat] at z
    rw [e] at z
    rw [List.map_append, show List.map ndD [t] = [ndD t] from rfl, e]
    exact s_asgG z (g_tup rfl (g_cons g_name (g_cons g_name (g_cons g_name (g_cons g_name g_nil)))))
  by_cases m : meetE t.en q = true
  rotate_left
  · obtain ⟨nm, ch, et⟩ := nd_tup t
    refine ⟨(fd, st0), w.skip hq m, sz0, [some (.d (topD o)), some (.d (enD q)), some (.r qf), some (.r qw), some (.d (enD t.en)), some (.i (t.ht : Nat)), some (.d nm), some (.d ch)], ?_, .inl (s_seq (pop nm ch et) (s_ifF (t_is (t_test (e_call (T := Tp.tabs) (R := RPairs le0) (ds := [.d (enD t.en), .d (enD q)]) (p_cons (e_var rfl) (p_cons (e_var rfl) a_nil)) (rp_en ot.en hq))) (Bool.eq_false_iff.mpr m)) s_next))⟩
    exact ⟨.inr rfl, .inr rfl, .inr rfl, .inr rfl, .inl rfl, .inl rfl, .inl rfl, .inl rfl, trivial⟩
  · cases ot with
    | @leaf n e he =>
      refine ⟨(fd ++ [n], st0), w.take hl m, sz0, [some (.d (topD o)), some (.d (enD q)), some (.r qf), some (.r qw), some (.d (enD e)), some (.i ((1 : Nat) : Nat)), some (.d (.int n)), some (.d (.tuple []))], ?_, .inl (s_seq (pop (.int n) (.tuple []) rfl) (s_ifT (t_is (t_test (e_call (T := Tp.tabs) (R := RPairs le0) (ds := [.d (enD e), .d (enD q)]) (p_cons (e_var rfl) (p_cons (e_var rfl) a_nil)) (rp_en he hq))) m) (s_seq (s_extT (es := []) (e_var rfl) rfl (by rw [List.length_map]; show st0.length + 0 ≤ 100000; omega) nw) (s_ifT (t_is (p_test (e_notN (x := .int n) (e_var rfl) e_non)) rfl) ?_))))⟩
      · exact ⟨.inr rfl, .inr rfl, .inr rfl, .inr rfl, .inl rfl, .inl rfl, .inl rfl, .inl rfl, trivial⟩
      · refine s_pre (I' := lJ K qf (fd.map PyData.int) (lJ K qw (st0.map ndD ++ []) I)) (fun G H z => ⟨z.2.1, z.1, z.2.2⟩) ?_
        refine s_post (J := lJ K qf (fd.map PyData.int ++ [.int n]) (lJ K qw (st0.map ndD ++ []) I)) (fun G H z => ⟨by have := z.2.1; rw [List.append_nil] at this; exact this, by rw [List.map_append]; exact z.1, z.2.2⟩) ?_
        exact s_app (e_var rfl) rfl (by rw [List.length_map]; have := w.fl; omega) fun z => z.elim (fun e => nwf e.symm) nf
    | @node x y hx hy =>
      refine ⟨(fd, st0 ++ [x, y]), w.kids, ?_, [some (.d (topD o)), some (.d (enD q)), some (.r qf), some (.r qw), some (.d (enD (hullE x.en y.en))), some (.i ((1 + max x.ht y.ht : Nat) : Nat)), some (.d .none), some (.d (.tuple [ndD x, ndD y]))], ?_, .inl (s_seq (pop .none (.tuple [ndD x, ndD y]) rfl) (s_ifT (t_is (t_test (e_call (T := Tp.tabs) (R := RPairs le0) (ds := [.d (enD (hullE x.en y.en)), .d (enD q)]) (p_cons (e_var rfl) (p_cons (e_var rfl) a_nil)) (rp_en (NdOk.node hx hy).en hq))) m) (s_seq (s_extT (es := [ndD x, ndD y]) (e_var rfl) rfl (by rw [List.length_map]; show st0.length + 2 ≤ 100000; omega) nw) (s_ifF (t_is (p_test (e_notN (x := .none) (e_var rfl) e_non)) rfl) (s_post (J := lJ K qw (st0.map ndD ++ [ndD x, ndD y]) (lJ K qf (fd.map PyData.int) I)) (fun G H z => ⟨by rw [List.map_append]; exact z.1, z.2⟩) s_next)))))⟩
      · rw [sz_app, sz_app]
        show szL st0 + szL [x, y] < szL st0 + szL [brM x y]
        show szL st0 + (x.sz + (y.sz + 0)) < szL st0 + ((1 + x.sz + y.sz) + 0)
        omega
      · exact ⟨.inr rfl, .inr rfl, .inr rfl, .inr rfl, .inl rfl, .inl rfl, .inl rfl, .inl rfl, trivial⟩
theorem fok_Broad_meeting (Tp : Top K mg base) : FnOk P w K mg base CX0 4 Tp.f_Broad_meeting Tp.d_Broad_meeting ["self", "ends"] (spQ K Tp.tabs (RMeeting (IsB K Tp.C_Broad))) := by
  have G_ends_meet := fok_ends_meet (P := P) (w := w) (base := base) Tp
  refine Tp.F_Broad_meeting.ok sc_Broad_meeting (fun vs H Q E h => len_Q (fun _ _ _ ⟨_, _, _, e, _⟩ => by rw [e]; rfl) h) (fun cdv A outer s H vs Q E hr h => ?_)
  refine ⟨_, (pss_one (ps_ret (pe_callB cr_sortedI (by rfl) Tp.n_sorted (by decide +kernel) (pa_cons (pe_lock (pe_lc (own := [("name", 2), ("other", 3)]) (g := gTup K 2 (gCons (gName 2) (gCons (gName 3) gNil))) rfl sc_Broad_meeting.nd (pi_items (pe_fld (pv 0) rfl)) (blkOk_by (N := ["self", "ends", "name", "other"]) (sc := defScope s_Broad_meeting) (by decide +kernel)) (fun _ _ _ _ _ => (pg_tup rfl (pgs_cons (pg_name (i := 2) sc_Broad_meeting.nd rfl (Or.inl rfl)) (pgs_cons (pg_name (i := 3) sc_Broad_meeting.nd rfl (Or.inl rfl)) pgs_nil)))) (fun _ _ _ _ _ => (pts_one (pt_val (pe_call G_ends_meet (hr.mono (by decide)) (by rfl) Tp.g_ends_meet Tp.F_ends_meet.kp Tp.b_ends_meet .nil pass0 (pa_cons (pv 1) (pa_cons (pv 3) pa_nil)))))) (fun _ _ _ _ _ => (pv 2)))) pa_nil)))), body_Q ?_ h⟩
  refine fun ds Z d r I hT hZ => ?_
  obtain ⟨q, e, tb, rfl, ⟨ab, ae, ap, pt, bk, rfl⟩, he, rfl⟩ := r
  walk_at "norm"
  have ad := ad_of bk.ad
  have len := bk.t0.le
  have hl : ((enT tb).map fun z => (z.1, enD z.2)).length = tb.length := by rw [List.length_map, List.length_map]
  refine p_ret (e_sortI (ns := metL (enT tb) e) (p_cons (e_is (e_itemsLc (q := ae) (J := (cA [insC K Tp.C_Broad q [("boxes", .r ab), ("ends", .r ae), ("partners", .r ap)]]).and (Asn.tab Tp.tabs)) (kvs := (enT tb).map fun z => (z.1, enD z.2)) (b := fun i => ((enT tb)[i]?.map fun z => meetE e z.2).getD false) (e := fun i => ((enT tb)[i]?.map fun z => PyData.int z.1).getD .none) (fun G H z => ⟨?_, ca_sub (hZ G H z) (fun c hc => by rw [List.mem_singleton.mp hc]; exact b_ins), hT.get G H z⟩) (fun z => z.elim (fun ⟨c, hc, e⟩ => by rw [List.mem_singleton.mp hc] at e; exact ad.qe e.symm) fun z => z) (fun I2 h2 => e_fldR (fs := [("boxes", .r ab), ("ends", .r ae), ("partners", .r ap)]) Tp.cl_Broad Tp.na_Broad_ends (e_var rfl) (fun G H z => ca_ins (h2 G H z).1 List.mem_cons_self) rfl) (by rw [hl]; omega) fun i hi => ?_) ?_) a_nil) (srtI_perm _) (srtI_up _))
  · have := ca_k (hZ G H z) b_en
    rw [List.map_map]
    unfold ensD at this
    rw [List.map_map]
    exact this
  · rw [hl] at hi
    obtain ⟨z, hz⟩ : ∃ z, tb[i]? = some z := ⟨_, List.getElem?_eq_getElem hi⟩
    have h1 : (enT tb)[i]? = some (z.1, ofB z.2) := by rw [List.getElem?_map, hz]; rfl
    have hx : at0 (((enT tb).map fun z => (z.1, enD z.2)).map itemD) i = .tuple [.int z.1, enD (ofB z.2)] := at0_map (f := itemD) (show (List.map (fun z : Int × En => ((z.1, enD z.2) : Int × PyData)) (enT tb))[i]? = some (z.1, enD (ofB z.2)) by rw [List.getElem?_map, h1]; rfl)
    rw [hx, h1]
    have oz := (bk.t0.bx z (List.mem_of_getElem? hz)).en
    refine ⟨_, w_tup rfl (w_cons (w_name (by decide)) (w_cons (w_name (by decide)) w_nil)), fun I' hI' => ?_, fun _ I' hI' => e_var rfl⟩
    letI : HasT Tp.tabs I' := ⟨fun G H z => (hI' G H z).2⟩
    exact t_B (e_call (T := Tp.tabs) (R := RPairs le0) (ds := [.d (enD e), .d (enD (ofB z.2))]) (p_cons (e_var rfl) (p_cons (e_var rfl) a_nil)) (rp_en he oz))
  · congr 2
    rw [show ((enT tb).map fun z => (z.1, enD z.2)).length = (enT tb).length by rw [List.length_map]]
    rw [rowK_of (xs := enT tb) (p := fun z => meetE z.2 e) (f := fun z => PyData.int z.1) fun i x hx => by rw [hx]; exact ⟨meet_comm _ _, rfl⟩]
    unfold metL
    rw [List.map_map]
    rfl
theorem fok_stretch_within (Tp : Top K mg base) : FnOk P w K mg base (L2.CX P w) 4 Tp.f_stretch_within Tp.d_stretch_within ["ends", "origin", "path"] (spX K RWithin) := by
  have G_common_span := fok_common_span (P := P) (w := w) (base := base) Tp
  have G_minus := fok_minus (P := P) (w := w) (base := base) Tp
  have G_compare := fok_compare (P := P) (w := w) (base := base) Tp
  have G_passing := fok_passing (P := P) (w := w) (base := base) Tp
  refine Tp.F_stretch_within.okX sc_stretch_within (fun vs H Q E h => len_X (fun _ _ ⟨_, _, _, _, _, e, _⟩ => by rw [e]; rfl) h) (fun cdv A outer s H vs Q E hr h => ?_)
  refine ⟨_, (pss_cons (ps_set (i := 3) sc_stretch_within.nd rfl (.inl rfl) (pe_lst pa_nil))
      (pss_cons (ps_for (passes_of rfl) rfl (pi_zip3 (by rfl) Tp.n_zip (pa_cons (pv 0) (pa_cons (pv 1) (pa_cons (pv 2) pa_nil)))) (pg_tup rfl (pgs_cons (pg_tup rfl (pgs_cons (pg_name (i := 4) sc_stretch_within.nd rfl (.inl rfl)) (pgs_cons (pg_name (i := 5) sc_stretch_within.nd rfl (.inl rfl)) pgs_nil))) (pgs_cons (pg_name (i := 6) sc_stretch_within.nd rfl (.inl rfl)) (pgs_cons (pg_name (i := 7) sc_stretch_within.nd rfl (.inl rfl)) pgs_nil)))) (pss_cons (ps_set (i := 8) sc_stretch_within.nd rfl (.inl rfl) (pe_call G_minus (hr.mono (by decide)) (by rfl) Tp.g_minus Tp.F_minus.kp Tp.b_minus .nil pass0 (pa_cons (pv 4) (pa_cons (pv 6) pa_nil))))
      (pss_cons (ps_set (i := 9) sc_stretch_within.nd rfl (.inl rfl) (pe_call G_minus (hr.mono (by decide)) (by rfl) Tp.g_minus Tp.F_minus.kp Tp.b_minus .nil pass0 (pa_cons (pv 5) (pa_cons (pv 6) pa_nil))))
      (pss_one (ps_if (pt_cmpR op_ne (pe_ix (r := rIxT K) ix_tup (pv 7) pe_int (fun _ _ => rfl)) pe_int (nomark _)) (pss_one (ps_expr (pe_bm PySem.F.plainAttrs_list PySem.F.slot_list_append PySem.F.type_list_append mt_append (pv 3) (pa_cons (pe_call G_passing (hr.mono (by decide)) (by rfl) Tp.g_passing Tp.F_passing.kp Tp.b_passing .nil (passes_call (takes_of rfl rfl rfl rfl) (fun _ _ _ _ z => z)) (pa_cons (pv 8) (pa_cons (pv 9) (pa_cons (pv 7) pa_nil)))) pa_nil)))) (pss_one (ps_if (PW.pt (pw_or (pt_cmpR op_gt (pe_ix (r := rIxT K) ix_tup (pv 8) pe_int (fun _ _ => rfl)) pe_int (nomark _)) (pw_or1 (pt_cmpR op_lt (pe_ix (r := rIxT K) ix_tup (pv 9) pe_int (fun _ _ => rfl)) pe_int (nomark _))))) (pss_one (ps_ret pe_non)) pss_nil)))))))
      (pss_cons (ps_asg (pe_call G_common_span (hr.mono (by decide)) (by rfl) Tp.g_common_span Tp.F_common_span.kp Tp.b_common_span .nil pass0 (pa_cons (pv 3) pa_nil)) (pg_tup rfl (pgs_cons (pg_name (i := 10) sc_stretch_within.nd rfl (.inl rfl)) (pgs_cons (pg_name (i := 11) sc_stretch_within.nd rfl (.inl rfl)) pgs_nil))))
      (pss_cons (ps_if (pt_cmpR op_gt (pe_call G_compare (hr.mono (by decide)) (by rfl) Tp.g_compare Tp.F_compare.kp Tp.b_compare .nil pass0 (pa_cons (pv 10) (pa_cons (pv 11) pa_nil))) pe_int (nomark _)) (pss_one (ps_ret pe_non)) pss_nil)
      (pss_one (ps_ret (pe_tup (pa_cons (pv 10) (pa_cons (pv 11) pa_nil))))))))), body_X ?_ h⟩
  refine fun ds r hr I hx => ?_
  obtain ⟨b, o0, o1, w0, w1, rfl, ok, rfl⟩ := hr
  walk_at "norm"
  refine s_newL fun q hq => ?_
  obtain ⟨sa, sb⟩ := cx_sz ok
  obtain ⟨k1, k2, k3, k4, k5, k6, k7, k8⟩ := ok
  generalize hA : cxA b.p0 b.s0 o0 w0 = A at *
  generalize hB : cxA b.p1 b.s1 o1 w1 = B at *
  have hzip : ∀ i x, zip3 [vcd b.p0 (plusM b.p0 b.s0), vcd b.p1 (plusM b.p1 b.s1)] [fr o0, fr o1] [fr w0, fr w1] i = some x → (i = 0 ∧ x = .tuple [.tuple [fr A.l, fr A.h], fr A.o, fr A.w]) ∨ (i = 1 ∧ x = .tuple [.tuple [fr B.l, fr B.h], fr B.o, fr B.w]) := by
    intro i x hx'
    subst hA hB
    match i with
    | 0 => exact .inl ⟨rfl, (Option.some.inj hx').symm⟩
    | 1 => exact .inr ⟨rfl, (Option.some.inj hx').symm⟩
    | n + 2 => simp [zip3] at hx'
  have hq' : ¬ I.foot q := hq
  -- the turns
  unfold rayM
  by_cases oA : A.out = true
  · rw [show (A.out || B.out) = true by rw [oA]; rfl, if_pos rfl]
    refine s_stop (s_forZ3 (n := 2) (m := 0) (P := fun _ => [some (.t [vcd b.p0 (plusM b.p0 b.s0), vcd b.p1 (plusM b.p1 b.s1)]), some (.d (vcd o0 o1)), some (.d (vcd w0 w1)), some (.r q), none, none, none, none, none, none, none, none]) (V := fun _ => lJ K q [] I) (p_cons (e_var rfl) (p_cons (e_var rfl) (p_cons (e_var rfl) a_nil))) rfl rfl rfl rfl ⟨by decide, fun i x h => by omega, .inr ⟨by decide, ⟨_, _, rfl⟩, fun x hx' => ?_⟩⟩)
    rcases hzip _ _ hx' with ⟨_, rfl⟩ | ⟨c, _⟩
    · refine ⟨_, g_tup rfl (g_cons (g_tup rfl (g_cons g_name (g_cons g_name g_nil))) (g_cons g_name (g_cons g_name g_nil))), ?_⟩
      refine q_asg (d := .d (fr (minusM A.l A.o))) (p_call (R := RPlus minusM) (ds := [.d (fr A.l), .d (fr A.o)]) (by walk_at "ev") (RPlus.mk sa.l sa.o)) ?_
      refine q_asg (d := .d (fr (minusM A.h A.o))) (p_call (R := RPlus minusM) (ds := [.d (fr A.h), .d (fr A.o)]) (by walk_at "ev") (RPlus.mk sa.h sa.o)) ?_
      refine s_pre (I' := lJ K q ([]) I) (fun _ _ z => z) ?_
      obtain ⟨z0, z1⟩ := out_tt oA
      exact s_rtP (J := lJ K q ([]) I) (fun _ _ z => z.2) (q_ifF (p_test (p_neI (i := A.w.1) (j := 0) (by walk_at "ev") (by walk_at "ev"))) (by rw [decide_eq_true z0]; rfl) (q_ifT (t_or (p_test (p_gt (i := (minusM A.l A.o).1) (j := 0) (by walk_at "ev") (by walk_at "ev"))) fun _ => p_test (p_lt (i := (minusM A.h A.o).1) (j := 0) (by walk_at "ev") (by walk_at "ev"))) z1 (p_ret e_non)))
    · omega
  have oA : A.out = false := Bool.eq_false_iff.mpr oA
  by_cases oB : B.out = true
  · rw [show (A.out || B.out) = true by rw [oA, oB]; rfl, if_pos rfl]
    refine s_stop (s_forZ3 (n := 2) (m := 1) (P := fun _ => [some (.t [vcd b.p0 (plusM b.p0 b.s0), vcd b.p1 (plusM b.p1 b.s1)]), some (.d (vcd o0 o1)), some (.d (vcd w0 w1)), some (.r q), none, none, none, none, none, none, none, none]) (V := fun i => lJ K q (if i = 0 then [] else A.spans.map pr) I) (p_cons (e_var rfl) (p_cons (e_var rfl) (p_cons (e_var rfl) a_nil))) rfl rfl rfl rfl ⟨by decide, fun i x h hx' => ?_, .inr ⟨by decide, ⟨_, _, rfl⟩, fun x hx' => ?_⟩⟩)
    · obtain rfl : i = 0 := by omega
      rcases hzip _ _ hx' with ⟨_, rfl⟩ | ⟨c, _⟩
      · refine ⟨_, g_tup rfl (g_cons (g_tup rfl (g_cons g_name (g_cons g_name g_nil))) (g_cons g_name (g_cons g_name g_nil))), ?_⟩
        refine q_asg (d := .d (fr (minusM A.l A.o))) (p_call (R := RPlus minusM) (ds := [.d (fr A.l), .d (fr A.o)]) (by walk_at "ev") (RPlus.mk sa.l sa.o)) ?_
        refine q_asg (d := .d (fr (minusM A.h A.o))) (p_call (R := RPlus minusM) (ds := [.d (fr A.h), .d (fr A.o)]) (by walk_at "ev") (RPlus.mk sa.h sa.o)) ?_
        refine s_is ?_ (show Out.nx _ (lJ K q ([] ++ A.spans.map pr) I) = _ from rfl)
        refine s_pre (I' := lJ K q ([]) I) (fun _ _ z => z) ?_
        refine s_lessN (ρ' := [some (.t [vcd b.p0 (plusM b.p0 b.s0), vcd b.p1 (plusM b.p1 b.s1)]), some (.d (vcd o0 o1)), some (.d (vcd w0 w1)), some (.r q), some (.d (fr A.l)), some (.d (fr A.h)), some (.d (fr A.o)), some (.d (fr A.w)), some (.d (fr (minusM A.l A.o))), some (.d (fr (minusM A.h A.o))), none, none]) ⟨.inr rfl, .inr rfl, .inr rfl, .inr rfl, .inl rfl, .inl rfl, .inl rfl, .inl rfl, .inl rfl, .inl rfl, .inr rfl, .inr rfl, trivial⟩ ?_
        by_cases z0 : A.w.1 = 0
        · rw [spans_no z0, List.map_nil, List.append_nil]
          exact q_ifF (p_test (p_neI (i := A.w.1) (j := 0) (by walk_at "ev") (by walk_at "ev"))) (by rw [decide_eq_true z0]; rfl) (q_ifF (t_or (p_test (p_gt (i := (minusM A.l A.o).1) (j := 0) (by walk_at "ev") (by walk_at "ev"))) fun _ => p_test (p_lt (i := (minusM A.h A.o).1) (j := 0) (by walk_at "ev") (by walk_at "ev"))) (out_ff oA z0) s_next)
        · rw [spans_yes z0, List.map_singleton]
          refine q_ifT (p_test (p_neI (i := A.w.1) (j := 0) (by walk_at "ev") (by walk_at "ev"))) (by rw [decide_eq_false z0]; rfl) ?_
          exact s_app (e_callX (R := RPassing) (ds := [.d (fr (minusM A.l A.o)), .d (fr (minusM A.h A.o)), .d (fr A.w)]) (by walk_at "ev") ⟨_, _, _, rfl, sa.mlo, sa.mho, sa.w.mono (by decide), z0, rfl⟩) rfl (by first | exact spans_lt _ | decide) hq
      · omega
    · rcases hzip _ _ hx' with ⟨c, _⟩ | ⟨_, rfl⟩
      · omega
      · refine ⟨_, g_tup rfl (g_cons (g_tup rfl (g_cons g_name (g_cons g_name g_nil))) (g_cons g_name (g_cons g_name g_nil))), ?_⟩
        refine q_asg (d := .d (fr (minusM B.l B.o))) (p_call (R := RPlus minusM) (ds := [.d (fr B.l), .d (fr B.o)]) (by walk_at "ev") (RPlus.mk sb.l sb.o)) ?_
        refine q_asg (d := .d (fr (minusM B.h B.o))) (p_call (R := RPlus minusM) (ds := [.d (fr B.h), .d (fr B.o)]) (by walk_at "ev") (RPlus.mk sb.h sb.o)) ?_
        refine s_pre (I' := lJ K q (A.spans.map pr) I) (fun _ _ z => z) ?_
        obtain ⟨z0, z1⟩ := out_tt oB
        exact s_rtP (J := lJ K q (A.spans.map pr) I) (fun _ _ z => z.2) (q_ifF (p_test (p_neI (i := B.w.1) (j := 0) (by walk_at "ev") (by walk_at "ev"))) (by rw [decide_eq_true z0]; rfl) (q_ifT (t_or (p_test (p_gt (i := (minusM B.l B.o).1) (j := 0) (by walk_at "ev") (by walk_at "ev"))) fun _ => p_test (p_lt (i := (minusM B.h B.o).1) (j := 0) (by walk_at "ev") (by walk_at "ev"))) z1 (p_ret e_non)))
  have oB : B.out = false := Bool.eq_false_iff.mpr oB
  rw [show (A.out || B.out) = false by rw [oA, oB]; rfl, if_neg Bool.false_ne_true]
  refine s_seq (s_forZ3 (n := 2) (m := 2) (P := fun _ => [some (.t [vcd b.p0 (plusM b.p0 b.s0), vcd b.p1 (plusM b.p1 b.s1)]), some (.d (vcd o0 o1)), some (.d (vcd w0 w1)), some (.r q), none, none, none, none, none, none, none, none]) (V := fun i => lJ K q (if i = 0 then [] else if i = 1 then A.spans.map pr else A.spans.map pr ++ B.spans.map pr) I) (p_cons (e_var rfl) (p_cons (e_var rfl) (p_cons (e_var rfl) a_nil))) rfl rfl rfl rfl (Turns.all fun i x h hx' => ?_)) ?_
  · rcases hzip _ _ hx' with ⟨rfl, rfl⟩ | ⟨rfl, rfl⟩
    · refine ⟨_, g_tup rfl (g_cons (g_tup rfl (g_cons g_name (g_cons g_name g_nil))) (g_cons g_name (g_cons g_name g_nil))), ?_⟩
      refine q_asg (d := .d (fr (minusM A.l A.o))) (p_call (R := RPlus minusM) (ds := [.d (fr A.l), .d (fr A.o)]) (by walk_at "ev") (RPlus.mk sa.l sa.o)) ?_
      refine q_asg (d := .d (fr (minusM A.h A.o))) (p_call (R := RPlus minusM) (ds := [.d (fr A.h), .d (fr A.o)]) (by walk_at "ev") (RPlus.mk sa.h sa.o)) ?_
      refine s_is ?_ (show Out.nx _ (lJ K q ([] ++ A.spans.map pr) I) = _ from rfl)
      refine s_pre (I' := lJ K q ([]) I) (fun _ _ z => z) ?_
      refine s_lessN (ρ' := [some (.t [vcd b.p0 (plusM b.p0 b.s0), vcd b.p1 (plusM b.p1 b.s1)]), some (.d (vcd o0 o1)), some (.d (vcd w0 w1)), some (.r q), some (.d (fr A.l)), some (.d (fr A.h)), some (.d (fr A.o)), some (.d (fr A.w)), some (.d (fr (minusM A.l A.o))), some (.d (fr (minusM A.h A.o))), none, none]) ⟨.inr rfl, .inr rfl, .inr rfl, .inr rfl, .inl rfl, .inl rfl, .inl rfl, .inl rfl, .inl rfl, .inl rfl, .inr rfl, .inr rfl, trivial⟩ ?_
      by_cases z0 : A.w.1 = 0
      · rw [spans_no z0, List.map_nil, List.append_nil]
        exact q_ifF (p_test (p_neI (i := A.w.1) (j := 0) (by walk_at "ev") (by walk_at "ev"))) (by rw [decide_eq_true z0]; rfl) (q_ifF (t_or (p_test (p_gt (i := (minusM A.l A.o).1) (j := 0) (by walk_at "ev") (by walk_at "ev"))) fun _ => p_test (p_lt (i := (minusM A.h A.o).1) (j := 0) (by walk_at "ev") (by walk_at "ev"))) (out_ff oA z0) s_next)
      · rw [spans_yes z0, List.map_singleton]
        refine q_ifT (p_test (p_neI (i := A.w.1) (j := 0) (by walk_at "ev") (by walk_at "ev"))) (by rw [decide_eq_false z0]; rfl) ?_
        exact s_app (e_callX (R := RPassing) (ds := [.d (fr (minusM A.l A.o)), .d (fr (minusM A.h A.o)), .d (fr A.w)]) (by walk_at "ev") ⟨_, _, _, rfl, sa.mlo, sa.mho, sa.w.mono (by decide), z0, rfl⟩) rfl (by first | exact spans_lt _ | decide) hq
    · refine ⟨_, g_tup rfl (g_cons (g_tup rfl (g_cons g_name (g_cons g_name g_nil))) (g_cons g_name (g_cons g_name g_nil))), ?_⟩
      refine q_asg (d := .d (fr (minusM B.l B.o))) (p_call (R := RPlus minusM) (ds := [.d (fr B.l), .d (fr B.o)]) (by walk_at "ev") (RPlus.mk sb.l sb.o)) ?_
      refine q_asg (d := .d (fr (minusM B.h B.o))) (p_call (R := RPlus minusM) (ds := [.d (fr B.h), .d (fr B.o)]) (by walk_at "ev") (RPlus.mk sb.h sb.o)) ?_
      refine s_is ?_ (show Out.nx _ (lJ K q (A.spans.map pr ++ B.spans.map pr) I) = _ from rfl)
      refine s_pre (I' := lJ K q (A.spans.map pr) I) (fun _ _ z => z) ?_
      refine s_lessN (ρ' := [some (.t [vcd b.p0 (plusM b.p0 b.s0), vcd b.p1 (plusM b.p1 b.s1)]), some (.d (vcd o0 o1)), some (.d (vcd w0 w1)), some (.r q), some (.d (fr B.l)), some (.d (fr B.h)), some (.d (fr B.o)), some (.d (fr B.w)), some (.d (fr (minusM B.l B.o))), some (.d (fr (minusM B.h B.o))), none, none]) ⟨.inr rfl, .inr rfl, .inr rfl, .inr rfl, .inl rfl, .inl rfl, .inl rfl, .inl rfl, .inl rfl, .inl rfl, .inr rfl, .inr rfl, trivial⟩ ?_
      by_cases z0 : B.w.1 = 0
      · rw [spans_no z0, List.map_nil, List.append_nil]
        exact q_ifF (p_test (p_neI (i := B.w.1) (j := 0) (by walk_at "ev") (by walk_at "ev"))) (by rw [decide_eq_true z0]; rfl) (q_ifF (t_or (p_test (p_gt (i := (minusM B.l B.o).1) (j := 0) (by walk_at "ev") (by walk_at "ev"))) fun _ => p_test (p_lt (i := (minusM B.h B.o).1) (j := 0) (by walk_at "ev") (by walk_at "ev"))) (out_ff oB z0) s_next)
      · rw [spans_yes z0, List.map_singleton]
        refine q_ifT (p_test (p_neI (i := B.w.1) (j := 0) (by walk_at "ev") (by walk_at "ev"))) (by rw [decide_eq_false z0]; rfl) ?_
        exact s_app (e_callX (R := RPassing) (ds := [.d (fr (minusM B.l B.o)), .d (fr (minusM B.h B.o)), .d (fr B.w)]) (by walk_at "ev") ⟨_, _, _, rfl, sb.mlo, sb.mho, sb.w.mono (by decide), z0, rfl⟩) rfl (by first | exact spans_lt _ | decide) hq
  · refine s_pre (I' := lJ K q ((A.spans ++ B.spans).map pr) I) (fun G H z => by rw [List.map_append]; exact z) ?_
    have hsp : ∀ s ∈ A.spans ++ B.spans, PL.Ok 4000 s.1 ∧ PL.Ok 4000 s.2 := fun s hs => by
      rcases List.mem_append.mp hs with hs | hs
      · exact ⟨((spans_sz sa) s hs).1.mono (by decide), ((spans_sz sa) s hs).2.mono (by decide)⟩
      · exact ⟨((spans_sz sb) s hs).1.mono (by decide), ((spans_sz sb) s hs).2.mono (by decide)⟩
    generalize A.spans ++ B.spans = sp at *
    refine s_freeze (i := 3) rfl hq ?_
    walk_at "norm"
    refine s_seq (s_asgG (x := pr (fstM sp, lstM sp)) (p_call (R := RCommon) (ds := [.d (.list (sp.map pr))]) (p_cons (e_var rfl) a_nil) ⟨sp, rfl, hsp, rfl⟩) (g_tup rfl (g_cons g_name (g_cons g_name g_nil)))) ?_
    have o1 : PL.Ok 4000 (fstM sp) := fst_in (fun s hs => (hsp s hs).1)
    have o2 : PL.Ok 4000 (lstM sp) := lst_in (fun s hs => (hsp s hs).2)
    have e : decide (0 < cmpM (fstM sp) (lstM sp)) = less (lstM sp) (fstM sp) := (more_cmp _ _).symm
    unfold spanM
    by_cases c : less (lstM sp) (fstM sp) = true
    · rw [if_pos c]
      exact s_stop (q_ifT (p_test (p_gt (i := cmpM (fstM sp) (lstM sp)) (j := 0) (p_call (R := RCmp) (ds := [.d (fr (fstM sp)), .d (fr (lstM sp))]) (by walk_at "ev") ⟨_, _, rfl, o1, o2, rfl⟩) (by walk_at "ev"))) (by rw [e, c]) (p_ret e_non))
    · rw [if_neg c]
      exact q_skip (p_test (p_gt (i := cmpM (fstM sp) (lstM sp)) (j := 0) (p_call (R := RCmp) (ds := [.d (fr (fstM sp)), .d (fr (lstM sp))]) (by walk_at "ev") ⟨_, _, rfl, o1, o2, rfl⟩) (by walk_at "ev"))) (by rw [e]; exact Bool.eq_false_iff.mpr c) (p_ret (p_tup2 (by walk_at "ev")))
theorem fok_square_of_distance (Tp : Top K mg base) : FnOk P w K mg base CX0 4 Tp.f_square_of_distance Tp.d_square_of_distance ["ends", "point"] (spP K RSq) := by
  have G_point_ends := fok_point_ends (P := P) (w := w) (base := base) Tp
  have G_dot := fok_dot (P := P) (w := w) (base := base) Tp
  have G_greatest := fok_greatest (P := P) (w := w) (base := base) Tp
  have G_gap_of_ends := fok_gap_of_ends (P := P) (w := w) (base := base) Tp
  refine Tp.F_square_of_distance.ok sc_square_of_distance (fun vs H Q E h => len_P (fun _ _ ⟨_, _, e, _⟩ => by rw [e]; rfl) h) (fun cdv A outer s H vs Q E hr h => ?_)
  refine ⟨_, (pss_cons (ps_set (i := 2) sc_square_of_distance.nd rfl (.inr rfl) (pe_call G_point_ends (hr.mono (by decide)) (by rfl) Tp.g_point_ends Tp.F_point_ends.kp Tp.b_point_ends .nil pass0 (pa_cons (pv 1) pa_nil)))
      (pss_cons (ps_set (i := 3) sc_square_of_distance.nd rfl (.inl rfl) (pe_callTy call_tuple_of (by rfl) Tp.n_tuple (by decide +kernel) (pa_cons (pe_lc (own := [("axis", 4)]) (g := gName 4) (tt := tYes) rfl sc_square_of_distance.nd (pi_tup (pe_tup (pa_cons pe_int (pa_cons pe_int pa_nil)))) (blkOk_by (N := ["ends", "point", "spot", "way", "axis"]) (sc := defScope s_square_of_distance) (by decide +kernel)) (fun _ _ _ _ _ => pg_name (i := 4) sc_square_of_distance.nd rfl (Or.inl rfl)) (fun _ _ _ _ _ => pts_nil) (fun _ _ _ _ _ => (pe_call G_greatest (hr.mono (by decide)) (by rfl) Tp.g_greatest Tp.F_greatest.kp Tp.b_greatest .nil pass0 (pa_cons (pe_tup (pa_cons (pe_glob (v := .ref Tp.k_ZERO) (by rfl) Tp.gk_ZERO rfl) (pa_cons (pe_call G_gap_of_ends (hr.mono (by decide)) (by rfl) Tp.g_gap_of_ends Tp.F_gap_of_ends.kp Tp.b_gap_of_ends .nil pass0 (pa_cons (pe_ix (r := rIxT K) ix_tup (pv 0) (pv 4) (fun _ _ => rfl)) (pa_cons (pe_ix (r := rIxT K) ix_tup (pv 2) (pv 4) (fun _ _ => rfl)) pa_nil))) pa_nil))) pa_nil)))) pa_nil)))
      (pss_one (ps_ret (pe_call G_dot (hr.mono (by decide)) (by rfl) Tp.g_dot Tp.F_dot.kp Tp.b_dot .nil pass0 (pa_cons (pv 3) (pa_cons (pv 3) pa_nil))))))), body_P ?_ h⟩
  refine fun ds d r I => ?_
  obtain ⟨e, x, rfl, he, h0, h1, rfl⟩ := r
  walk_at "norm"
  obtain ⟨o1, o2, o3, o4⟩ := he.o
  have g0 := gapE_ok o1 o2 h0
  have g1 := gapE_ok o3 o4 h1
  refine q_asg (d := .t [vcd x.1 x.1, vcd x.2 x.2]) (p_call (R := RPointE) (ds := [.d (vcd x.1 x.2)]) (p_cons (e_var rfl) a_nil) ⟨x, rfl, rfl⟩) ?_
  refine q_asg (d := .t [fr (gapE e.l0 e.h0 x.1), fr (gapE e.l1 e.h1 x.2)]) (e_tupOf (p_cons (e_lcW (es := [fr (gapE e.l0 e.h0 x.1), fr (gapE e.l1 e.h1 x.2)]) (iw_t (ds := [.int 0, .int 1]) (p_tup2 (p_cons e_int (p_cons e_int a_nil)))) rfl (show 2 ≤ 100000 by decide) fun i y hi hy => ?_) a_nil)) ?_
  · have el : ∀ (j : Int) (I' : Asn) (l h z : F), PL.Ok 40 l → PL.Ok 40 h → PL.Ok 200 z → atI [vcd e.l0 e.h0, vcd e.l1 e.h1] j = some (vcd l h) → atI [vcd x.1 x.1, vcd x.2 x.2] j = some (vcd z z) → PL.E K (tCall (spP K (RBest more)) [] E0 (tCons (tTup (tCons (tC (.ref Tp.k_ZERO)) (tCons (tCall (spP K RGapE) [] E0 (tCons (tOp (rIxT K) (tVar 0) (tVar 4)) (tCons (tOp (rIxT K) (tVar 2) (tVar 4)) tNil))) tNil))) tNil)) [some (.d (enD e)), some (.d (vcd x.1 x.2)), some (.t [vcd x.1 x.1, vcd x.2 x.2]), none, some (.i j)] I' (.d (fr (gapE l h z))) I' := fun j I' l h z ol oh oz h1 h2 => by
      have m1 := PL.ok_minus oz oh
      have m2 := PL.ok_minus ol oz
      exact p_call (R := RBest more) (ds := [.t [fr (0, 1), fr (mx (minusM z h) (minusM l z))]]) (p_cons (p_tup2 (p_cons (e_glob (dp_const Tp.dk_ZERO fun G => .cons (.int 0) (.cons (.int 1) .nil))) (p_cons (p_call (R := RGapE) (ds := [.d (vcd l h), .d (vcd z z)]) (p_cons (p_ixT (e_var rfl) (e_var rfl) h1) (p_cons (p_ixT (e_var rfl) (e_var rfl) h2) a_nil)) ⟨l, h, z, z, rfl, ol.mono (by decide), oh.mono (by decide), oz.mono (by decide), oz.mono (by decide), rfl⟩) a_nil))) a_nil) ⟨(0, 1), [mx (minusM z h) (minusM l z)], rfl, fun w hw => by
        rcases List.mem_cons.mp hw with rfl | hw
        · exact zero_ok (by decide)
        · rw [List.mem_singleton.mp hw]
          exact (mx_ok (m1.mono (by decide)) (m2.mono (n := 241) (by decide))).mono (by decide), rfl⟩
    match i, hy with
    | 0, hy =>
      obtain rfl := Option.some.inj hy
      exact ⟨_, w_name List.mem_cons_self, fun I' => el 0 I' _ _ _ o1 o2 h0 rfl rfl⟩
    | 1, hy =>
      obtain rfl := Option.some.inj hy
      exact ⟨_, w_name List.mem_cons_self, fun I' => el 1 I' _ _ _ o3 o4 h1 rfl rfl⟩
    | n + 2, hy => exact absurd (show n + 2 < 2 from hi) (by omega)
  · exact p_ret (p_call (R := RDot) (ds := [.t [fr (gapE e.l0 e.h0 x.1), fr (gapE e.l1 e.h1 x.2)], .t [fr (gapE e.l0 e.h0 x.1), fr (gapE e.l1 e.h1 x.2)]]) (p_cons (e_var rfl) (p_cons (e_var rfl) a_nil)) ⟨_, _, _, _, rfl, g0.mono (by decide), g1.mono (by decide), g0.mono (by decide), g1.mono (by decide), rfl⟩)
theorem fok_law_vector (Tp : Top K mg base) : FnOk P w K mg base CX0 4 Tp.f_law_vector Tp.d_law_vector ["d", "most"] (spW K RVec) := by
  have G_law_part := fok_law_part (P := P) (w := w) (base := base) Tp
  refine Tp.F_law_vector.ok sc_law_vector (fun vs H Q E h => len_W (fun _ _ _ _ ⟨_, e, _⟩ => by rw [e]; rfl) h) (fun cdv A outer s H vs Q E hr h => ?_)
  refine ⟨_, (pss_one (ps_ret (pe_tup (pa_cons (pe_call G_law_part (hr.mono (by decide)) (by rfl) Tp.g_law_part Tp.F_law_part.kp Tp.b_law_part .nil pass0 (pa_cons (pv 0) (pa_cons (pv 1) pa_nil))) (pa_cons (pe_call G_law_part (hr.mono (by decide)) (by rfl) Tp.g_law_part Tp.F_law_part.kp Tp.b_law_part .nil pass0 (pa_cons (pv 0) (pa_cons (pv 1) pa_nil))) pa_nil))))), body_W ?_ h⟩
  refine fun ds C d C' r p J hf => ?_
  obtain ⟨m, rfl, ok, hm, hz, rfl, rfl⟩ := r
  walk_at "norm"
  obtain ⟨o1, _⟩ := part_ok (C := C) (m := m) ok hm hz
  refine s_ret (e_tup (a_cons (e_draw (R := RPart) (ds := [.i m]) (C := C) (by walk_at "ev") ⟨_, rfl, ok, hm, hz, rfl, rfl⟩ hf) (a_cons (e_draw (R := RPart) (ds := [.i m]) (by walk_at "ev") ⟨_, rfl, o1, hm, hz, rfl, rfl⟩ hf) a_nil)) (.cons (.cons .nil)) (show 2 ≤ 100000 by decide))
theorem fok_law_high (Tp : Top K mg base) : FnOk P w K mg base CX0 4 Tp.f_law_high Tp.d_law_high ["box", "k"] (spP K RHigh) := by
  have G_law_plus := fok_law_plus (P := P) (w := w) (base := base) Tp
  refine Tp.F_law_high.ok sc_law_high (fun vs H Q E h => len_P (fun _ _ ⟨_, _, e, _⟩ => by rw [e]; rfl) h) (fun cdv A outer s H vs Q E hr h => ?_)
  refine ⟨_, (pss_one (ps_ret (pe_call G_law_plus (hr.mono (by decide)) (by rfl) Tp.g_law_plus Tp.F_law_plus.kp Tp.b_law_plus .nil pass0 (pa_cons (pe_ix (r := rIxT K) ix_tup (pe_ix (r := rIxT K) ix_tup (pv 0) pe_int (fun _ _ => rfl)) (pv 1) (fun _ _ => rfl)) (pa_cons (pe_ix (r := rIxT K) ix_tup (pe_ix (r := rIxT K) ix_tup (pv 0) pe_int (fun _ _ => rfl)) (pv 1) (fun _ _ => rfl)) pa_nil))))), body_P ?_ h⟩
  refine fun ds d r I => ?_
  obtain ⟨b, k, rfl, hk, k1, k2, k3, k4, rfl⟩ := r
  walk_at "norm"
  refine p_ret ?_
  rcases hk with rfl | rfl
  · exact e_is (p_call (R := RPlus lplus) (ds := [.d (fr b.p0), .d (fr b.s0)]) (p_cons (p_ixT (p_i0 (e_var rfl)) (e_var rfl) rfl) (p_cons (p_ixT (p_i1 (e_var rfl)) (e_var rfl) rfl) a_nil)) (RPlus.mk k1 k3)) (by rw [lplus_eq k1.nrm k3.nrm]; rfl)
  · exact e_is (p_call (R := RPlus lplus) (ds := [.d (fr b.p1), .d (fr b.s1)]) (p_cons (p_ixT (p_i0 (e_var rfl)) (e_var rfl) rfl) (p_cons (p_ixT (p_i1 (e_var rfl)) (e_var rfl) rfl) a_nil)) (RPlus.mk k2 k4)) (by rw [lplus_eq k2.nrm k4.nrm]; rfl)
theorem fok_balanced (Tp : Top K mg base) : FnOk P w K mg base CX0 5 Tp.f_balanced Tp.d_balanced ["one", "other"] (spP K RBal) := by
  have G_branch_of := fok_branch_of (P := P) (w := w) (base := base) Tp
  refine Tp.F_balanced.ok sc_balanced (fun vs H Q E h => len_P (fun _ _ ⟨_, _, e, _⟩ => by rw [e]; rfl) h) (fun cdv A outer s H vs Q E hr h => ?_)
  refine ⟨_, (pss_cons (ps_if (pt_cmpR op_gt (pe_ix (r := rIxT K) ix_tup (pv 0) pe_int (fun _ _ => rfl)) (pe_ix (r := rIxT K) ix_tup (pv 1) pe_int (fun _ _ => rfl)) (nomark _)) (pss_one (ps_par (i := 0) (j := 1) rfl sc_balanced.nd rfl rfl (by decide) rfl rfl (pa_cons (pv 1) (pa_cons (pv 0) pa_nil)) (by rfl))) pss_nil)
      (pss_cons (ps_if (pt_cmpR op_lt (pe_op op_sub (pe_ix (r := rIxT K) ix_tup (pv 1) pe_int (fun _ _ => rfl)) (pe_ix (r := rIxT K) ix_tup (pv 0) pe_int (fun _ _ => rfl))) pe_int (nomark _)) (pss_one (ps_ret (pe_call G_branch_of (hr.mono (by decide)) (by rfl) Tp.g_branch_of Tp.F_branch_of.kp Tp.b_branch_of .nil pass0 (pa_cons (pv 0) (pa_cons (pv 1) pa_nil))))) pss_nil)
      (pss_cons (ps_asg (pe_ix (r := rIxT K) ix_tup (pv 1) pe_int (fun _ _ => rfl)) (pg_tup rfl (pgs_cons (pg_name (i := 2) sc_balanced.nd rfl (.inl rfl)) (pgs_cons (pg_name (i := 3) sc_balanced.nd rfl (.inl rfl)) pgs_nil))))
      (pss_cons (ps_if (pt_cmpR op_gt (pe_ix (r := rIxT K) ix_tup (pv 2) pe_int (fun _ _ => rfl)) (pe_ix (r := rIxT K) ix_tup (pv 3) pe_int (fun _ _ => rfl)) (nomark _)) (pss_one (ps_par (i := 2) (j := 3) rfl sc_balanced.nd rfl rfl (by decide) rfl rfl (pa_cons (pv 3) (pa_cons (pv 2) pa_nil)) (by rfl))) pss_nil)
      (pss_one (ps_ret (pe_call G_branch_of (hr.mono (by decide)) (by rfl) Tp.g_branch_of Tp.F_branch_of.kp Tp.b_branch_of .nil pass0 (pa_cons (pe_call G_branch_of (hr.mono (by decide)) (by rfl) Tp.g_branch_of Tp.F_branch_of.kp Tp.b_branch_of .nil pass0 (pa_cons (pv 0) (pa_cons (pv 2) pa_nil))) (pa_cons (pv 3) pa_nil))))))))), body_P ?_ h⟩
  refine fun ds d r I => ?_
  obtain ⟨x, y, rfl, hx, hy, rfl⟩ := r
  walk_at "norm"
  have hb : balM x y = balC (if y.ht < x.ht then y else x) (if y.ht < x.ht then x else y) := by
    unfold balM
    split <;> rfl
  have h1 : NdOk (if y.ht < x.ht then y else x) := by split <;> assumption
  have h2 : NdOk (if y.ht < x.ht then x else y) := by split <;> assumption
  refine s_seq (ρ1 := [some (.d (ndD (if y.ht < x.ht then y else x))), some (.d (ndD (if y.ht < x.ht then x else y))), none, none]) (J := I) ?_ ?_
  · obtain ⟨nx, cx, ex⟩ := nd_tup x
    obtain ⟨ny, cy, ey⟩ := nd_tup y
    by_cases c : y.ht < x.ht
    · rw [if_pos c, if_pos c]
      exact q_ifT (p_test (p_gt (i := ((x.ht : Nat) : Int)) (j := ((y.ht : Nat) : Int)) (p_i1 (e_var (by rw [ex]; rfl))) (p_i1 (e_var (by rw [ey]; rfl))))) (decide_eq_true (by omega)) (p_par (p_cons (e_var rfl) (p_cons (e_var rfl) a_nil)))
    · rw [if_neg c, if_neg c]
      exact q_ifF (p_test (p_gt (i := ((x.ht : Nat) : Int)) (j := ((y.ht : Nat) : Int)) (p_i1 (e_var (by rw [ex]; rfl))) (p_i1 (e_var (by rw [ey]; rfl))))) (decide_eq_false (by omega)) s_next
  rw [hb]
  clear hb
  generalize (if y.ht < x.ht then y else x) = one at *
  generalize (if y.ht < x.ht then x else y) = other at *
  clear hx hy x y
  obtain ⟨nx, cx, ex⟩ := nd_tup one
  obtain ⟨ny, cy, ey⟩ := nd_tup other
  unfold balC
  by_cases c2 : other.ht - one.ht < 2
  · rw [if_pos c2]
    refine s_stop (q_ifT (p_test (p_lt (i := ((other.ht : Nat) : Int) - ((one.ht : Nat) : Int)) (j := 2) (p_sub (p_i1 (e_var (by rw [ey]; rfl))) (p_i1 (e_var (by rw [ex]; rfl)))) e_int)) (decide_eq_true (by omega)) ?_)
    exact p_ret (p_call (R := RBr) (ds := [.d (ndD one), .d (ndD other)]) (p_cons (e_var rfl) (p_cons (e_var rfl) a_nil)) ⟨one, other, rfl, h1, h2, rfl⟩)
  · rw [if_neg c2]
    refine q_skip (p_test (p_lt (i := ((other.ht : Nat) : Int) - ((one.ht : Nat) : Int)) (j := 2) (p_sub (p_i1 (e_var (by rw [ey]; rfl))) (p_i1 (e_var (by rw [ex]; rfl)))) e_int)) (decide_eq_false (by omega)) ?_
    clear ey cy ny
    cases h2 with
    | @leaf n e h =>
      have : one.ht ≥ 1 := h1.pos.1
      exact absurd (show 1 - one.ht < 2 by omega) c2
    | @node low high hl hh =>
      obtain ⟨nl, cl, el⟩ := nd_tup low
      obtain ⟨nh, ch, eh⟩ := nd_tup high
      refine s_seq (s_asgG (x := .tuple [ndD low, ndD high]) (p_ixT (i := 3) (ds := [enD (hullE low.en high.en), .int ((1 + max low.ht high.ht : Nat) : Nat), .none, .tuple [ndD low, ndD high]]) (e_var rfl) e_int rfl) (g_tup rfl (g_cons g_name (g_cons g_name g_nil)))) ?_
      walk_at "norm"
      show S K _ _ _ (.rt (.d (ndD (brM (brM one (if high.ht < low.ht then high else low)) (if high.ht < low.ht then low else high)))) I)
      by_cases c3 : high.ht < low.ht
      · rw [if_pos c3, if_pos c3]
        refine s_seq (q_ifT (p_test (p_gt (i := ((low.ht : Nat) : Int)) (j := ((high.ht : Nat) : Int)) (p_i1 (e_var (by rw [el]; rfl))) (p_i1 (e_var (by rw [eh]; rfl))))) (decide_eq_true (by omega)) (p_par (p_cons (e_var rfl) (p_cons (e_var rfl) a_nil)))) ?_
        exact p_ret (p_call (R := RBr) (ds := [.d (ndD (brM one high)), .d (ndD low)]) (p_cons (p_call (R := RBr) (ds := [.d (ndD one), .d (ndD high)]) (p_cons (e_var rfl) (p_cons (e_var rfl) a_nil)) ⟨one, high, rfl, h1, hh, rfl⟩) (p_cons (e_var rfl) a_nil)) ⟨_, low, rfl, .node h1 hh, hl, rfl⟩)
      · rw [if_neg c3, if_neg c3]
        refine q_skip (p_test (p_gt (i := ((low.ht : Nat) : Int)) (j := ((high.ht : Nat) : Int)) (p_i1 (e_var (by rw [el]; rfl))) (p_i1 (e_var (by rw [eh]; rfl))))) (decide_eq_false (by omega)) ?_
        exact p_ret (p_call (R := RBr) (ds := [.d (ndD (brM one low)), .d (ndD high)]) (p_cons (p_call (R := RBr) (ds := [.d (ndD one), .d (ndD low)]) (p_cons (e_var rfl) (p_cons (e_var rfl) a_nil)) ⟨one, low, rfl, h1, hl, rfl⟩) (p_cons (e_var rfl) a_nil)) ⟨_, high, rfl, .node h1 hl, hh, rfl⟩)
theorem fok_Broad_near (Tp : Top K mg base) : FnOk P w K mg base (L2.CX P w) 5 Tp.f_Broad_near Tp.d_Broad_near ["self", "box"] (spQ K Tp.tabs (RNear (IsB K Tp.C_Broad))) := by
  have G_check_box := fok_check_box (P := P) (w := w) (base := base) Tp
  have G_Broad_meeting := fok_Broad_meeting (P := P) (w := w) (base := base) Tp
  have G_ends_of := fok_ends_of (P := P) (w := w) (base := base) Tp
  refine Tp.F_Broad_near.okX sc_Broad_near (fun vs H Q E h => len_Q (fun _ _ _ ⟨_, _, _, e, _⟩ => by rw [e]; rfl) h) (fun cdv A outer s H vs Q E hr h => ?_)
  refine ⟨_, (pss_cons (ps_expr (pe_call G_check_box (hr.mono (by decide)) (by rfl) Tp.g_check_box Tp.F_check_box.kp Tp.b_check_box .nil (passes_call (takes_of rfl rfl rfl rfl) (fun _ _ _ _ z => z)) (pa_cons (pv 1) pa_nil)))
      (pss_one (ps_ret (pe_callTy call_tuple_of (by rfl) Tp.n_tuple (by decide +kernel) (pa_cons (pe_meth (pv 0) Tp.cl_Broad Tp.me_Broad_meeting G_Broad_meeting (hr.mono (by decide)) Tp.b_Broad_meeting .nil pass0 (pa_cons (pe_call G_ends_of (hr.mono (by decide)) (by rfl) Tp.g_ends_of Tp.F_ends_of.kp Tp.b_ends_of .nil pass0 (pa_cons (pv 1) pa_nil)) pa_nil)) pa_nil))))), body_Q ?_ h⟩
  refine fun ds Z d r I hT hZ => ?_
  obtain ⟨q, b, tb, rfl, hIs, hb, rfl⟩ := r
  walk_at "norm"
  refine s_seq (s_drop (e_callX (R := RCheck Tp.c_BoxError) (ds := [.d (bxd b)]) (d := .d .none) (p_cons (e_var rfl) a_nil) ⟨b, rfl, .inl ⟨hb.sz, rfl⟩⟩)) ?_
  obtain ⟨k1, k2, k3, k4⟩ := hb.ok
  refine p_ret (e_tupOf (p_cons (e_methQ (T := Tp.tabs) (Z := Z) (R := RMeeting (IsB K Tp.C_Broad)) (ds := [.d (enD (ofB b))]) (q := q) (e_var rfl) (p_cons (p_call (R := REnds) (ds := [.d (bxd b)]) (p_cons (e_var rfl) a_nil) ⟨b, rfl, k1, k2, k3, k4, rfl⟩) a_nil) (fun G H z => ?_) hZ ⟨q, ofB b, tb, rfl, hIs, hb.en, rfl⟩) a_nil))
  have z := hZ G H z
  obtain ⟨ab, ae, ap, pt, bk, rfl⟩ := hIs
  exact ca_look z b_ins rfl
theorem fok_Broad_put (Tp : Top K mg base) : FnOk P w K mg base CX0 5 Tp.f_Broad_put Tp.d_Broad_put ["self", "name", "box"] (spM K Tp.tabs (RPutO (IsB K Tp.C_Broad))) := by
  have G_ends_of := fok_ends_of (P := P) (w := w) (base := base) Tp
  have G_Broad_meeting := fok_Broad_meeting (P := P) (w := w) (base := base) Tp
  refine Tp.F_Broad_put.ok sc_Broad_put (fun vs H Q E h => len_M (fun _ _ _ ⟨_, _, _, _, e, _⟩ => by rw [e]; rfl) h) (fun cdv A outer s H vs Q E hr h => ?_)
  refine ⟨_, (pss_cons (ps_set (i := 3) sc_Broad_put.nd rfl (.inl rfl) (pe_call G_ends_of (hr.mono (by decide)) (by rfl) Tp.g_ends_of Tp.F_ends_of.kp Tp.b_ends_of .nil pass0 (pa_cons (pv 2) pa_nil)))
      (pss_cons (ps_set (i := 4) sc_Broad_put.nd rfl (.inl rfl) (pe_meth (pv 0) Tp.cl_Broad Tp.me_Broad_meeting G_Broad_meeting (hr.mono (by decide)) Tp.b_Broad_meeting .nil pass0 (pa_cons (pv 3) pa_nil)))
      (pss_cons (ps_for PassesOwn.never rfl (pi_list (pv 4)) (pg_name (i := 5) sc_Broad_put.nd rfl (.inl rfl)) (pss_one (ps_dput (hu_of hr) (pe_dget (hu_of hr) (pe_fld (pv 0) rfl) (pv 5) (fun _ _ => rfl)) (pv 1) pe_bl rfl)))
      (pss_cons (ps_dput (hu_of hr) (pe_fld (pv 0) rfl) (pv 1) (pe_dc (own := [("partner", 6)]) (tt := tYes) rfl sc_Broad_put.nd (pi_list (pv 4)) (blkOk_by (N := ["self", "name", "box", "ends", "found", "other", "partner"]) (sc := defScope s_Broad_put) (by decide +kernel)) (fun _ _ _ _ _ => (pg_name (i := 6) sc_Broad_put.nd rfl (Or.inl rfl))) (fun _ _ _ _ _ => pts_nil) (fun _ _ _ _ _ => (pv 6)) (fun _ _ _ _ _ => pe_bl)) rfl)
      (pss_cons (ps_dput (hu_of hr) (pe_fld (pv 0) rfl) (pv 1) (pv 2) rfl)
      (pss_one (ps_dput (hu_of hr) (pe_fld (pv 0) rfl) (pv 1) (pv 3) rfl))))))), body_V ?_ h⟩
  refine fun ds Z Po r J hT apJ => ?_
  obtain ⟨q, n, b, tb, rfl, hIs, hn, hb, hl, rfl⟩ := r
  have hIs0 := hIs
  obtain ⟨ab, ae, ap, pt, bk, rfl⟩ := hIs
  walk_at "norm"
  obtain ⟨k1, k2, k3, k4⟩ := hb.ok
  obtain ⟨fq, fab, fae, fap, fpt⟩ := b_foot apJ
  have ad := ad_of bk.ad
  have hks : ∃ ks, ks = srtI (metL (enT tb) (ofB b)) := ⟨_, rfl⟩
  obtain ⟨ks, hks⟩ := hks
  have hkp : ks.Perm (metL (enT tb) (ofB b)) := hks ▸ srtI_perm _
  have nk : ks.Nodup := (hkp.nodup_iff).mpr (met_nd bk.t0.nd _)
  have lk : ks.length ≤ 13 := by
    rw [hkp.length_eq]
    refine Nat.le_trans (met_le _ _) ?_
    rw [List.length_map]
    exact bk.t0.le
  have ksn : ∀ m ∈ ks, m ∈ nms tb := fun m hm => by
    have := met_sub (hkp.mem_iff.mp hm)
    rw [List.map_map] at this
    exact this
  refine s_seq (s_asg (d := .d (enD (ofB b))) (p_call (R := REnds) (ds := [.d (bxd b)]) (p_cons (e_var rfl) a_nil) ⟨b, rfl, k1, k2, k3, k4, rfl⟩)) ?_
  refine s_seq (s_asg (d := .d (.list (ks.map PyData.int))) (e_methQ (T := Tp.tabs) (Z := cA (bCs K Tp.C_Broad q ab ae ap tb pt)) (R := RMeeting (IsB K Tp.C_Broad)) (ds := [.d (enD (ofB b))]) (q := q) (e_var rfl) (p_cons (e_var rfl) a_nil) (fun G H z => ca_look z.1 b_ins rfl) (fun G H z => z.1) ⟨q, ofB b, tb, rfl, hIs0, hb.en, by rw [hks]⟩)) ?_
  walk_at "norm"
  refine s_seq (s_forL (ds := ks.map PyData.int) (fun _ => [some (.r q), some (.i n), some (.d (bxd b)), some (.d (enD (ofB b))), some (.d (.list (ks.map PyData.int))), none, none]) (fun i => (cA (bCs K Tp.C_Broad q ab ae ap tb (updF (ks.take i) (· ++ [n]) pt))).and J) (e_var rfl) rfl fun i x hx => ?_) ?_
  · rw [List.getElem?_map, Option.map_eq_some_iff] at hx
    obtain ⟨m, hm, rfl⟩ := hx
    have mk : m ∈ ks := List.mem_of_getElem? hm
    refine s_lessN (ρ' := [some (.r q), some (.i n), some (.d (bxd b)), some (.d (enD (ofB b))), some (.d (.list (ks.map PyData.int))), some (.i m), none]) ⟨.inr rfl, .inr rfl, .inr rfl, .inr rfl, .inr rfl, .inl rfl, .inr rfl, trivial⟩ ?_
    have eT : ks.take (i + 1) = ks.take i ++ [m] := by rw [List.take_add_one, hm]; rfl
    rw [eT, updF_snoc]
    obtain ⟨c1, c2⟩ := ptA_1 (updF_A (· ++ [n]) (ks.take i) pt)
    have hA := updF_A (· ++ [n]) (ks.take i) pt
    obtain ⟨a, l, hmem, hpm⟩ := bk.get (ksn m mk)
    have nti : m ∉ ks.take i := fun z => by
      obtain ⟨j, hj, e⟩ := List.mem_take_iff_getElem.mp z
      have hi2 : i < ks.length := (List.getElem?_eq_some_iff.mp hm).1
      have e2 : ks[i] = m := (List.getElem?_eq_some_iff.mp hm).2
      have := (List.getElem_inj (h₀ := by omega) (h₁ := hi2) nk).mp (e.trans e2.symm)
      omega
    have hmem2 : (m, a, l) ∈ updF (ks.take i) (· ++ [n]) pt := by
      rw [updF_eq _ (nk.sublist (List.take_sublist _ _))]
      exact List.mem_map.mpr ⟨_, hmem, if_neg nti⟩
    have nl : n ∉ l := fun z => hn (metN_sub (hpm.mem_iff.mp z)).1
    have ad2 : Ad (updF (ks.take i) (· ++ [n]) pt) q ab ae ap := ad_of (by rw [c2]; exact bk.ad)
    have nd2 : ((updF (ks.take i) (· ++ [n]) pt).map (·.1)).Nodup := by rw [c1]; exact bk.nd
    generalize updF (ks.take i) (· ++ [n]) pt = pti at *
    have fa : ¬ J.foot a := fpt _ hmem
    have ll : l.length ≤ 13 := by
      rw [hpm.length_eq]
      refine Nat.le_trans (met_le _ _) ?_
      rw [List.length_map]
      exact (bk.t0.del m).le
    refine s_putC (cs' := bCs K Tp.C_Broad q ab ae ap tb (upd1 m (· ++ [n]) pti)) (q1 := J) (x := .bool true) (a := a) (kvs := keyD l) e_bl (e_getR (a := ap) (rs := pti.map ptA) (e_fldR (fs := [("boxes", .r ab), ("ends", .r ae), ("partners", .r ap)]) Tp.cl_Broad Tp.na_Broad_partners (e_var (i := 0) rfl) (fun G H z => ca_ins z.1 b_ins) rfl) (e_var (i := 5) rfl) (fun G H z => (ca_r z.1 b_rf).2) (rf_mem hmem2) (rf_nd nd2)) (e_var rfl) (b_pt (e := (m, a, l)) hmem2) (by unfold keyD; rw [List.length_map]; omega) fa fun c hc => ?_
    rw [key_put nl]
    exact b_upd (e := (m, a, l)) ad2 nd2 hmem2 c hc
  rw [List.length_map, List.take_length]
  obtain ⟨c1, c2⟩ := ptA_1 (updF_A (· ++ [n]) ks pt)
  have ad2 : Ad (updF ks (· ++ [n]) pt) q ab ae ap := ad_of (by rw [c2]; exact bk.ad)
  have nn2 : n ∉ ((updF ks (· ++ [n]) pt).map ptA).map (·.1) := by
    rw [List.map_map]
    show n ∉ (updF ks (· ++ [n]) pt).map (·.1)
    rw [c1, bk.nm]
    exact hn
  have fpt2 : ∀ e ∈ updF ks (· ++ [n]) pt, ¬ J.foot e.2.1 := fun e he => by
    have m : e.2.1 ∈ pt.map (·.2.1) := by rw [← c2]; exact List.mem_map.mpr ⟨e, he, rfl⟩
    obtain ⟨e0, h0, e1⟩ := List.mem_map.mp m
    rw [← e1]
    exact fpt e0 h0
  have lpt : (updF ks (· ++ [n]) pt).length ≤ 13 := by
    have := congrArg List.length c1
    rw [List.length_map, List.length_map] at this
    have h2 := b_len (h := bk)
    omega
  have fin := fun p (h : p ∉ [q, ab, ae, ap] ++ pt.map (·.2.1)) => bk.put hn hb hl h hkp
  have padr : ∀ p, ¬ (cA (bCs K Tp.C_Broad q ab ae ap tb (updF ks (· ++ [n]) pt))).foot p → p ∉ [q, ab, ae, ap] ++ pt.map (·.2.1) := fun p np z => by
    rcases List.mem_append.mp z with z | z
    · simp only [List.mem_cons, List.not_mem_nil, or_false] at z
      rcases z with z | z | z | z
      · exact np ⟨_, b_ins, z⟩
      · exact np ⟨_, b_bx, z⟩
      · exact np ⟨_, b_en, z⟩
      · exact np ⟨_, b_rf, z⟩
    · rw [← c2] at z
      obtain ⟨e, he, e1⟩ := List.mem_map.mp z
      exact np ⟨_, b_pt he, e1.symm⟩
  generalize updF ks (· ++ [n]) pt = pt2 at *
  refine s_putNew (n := n) (a := ap) (rs := pt2.map ptA) (kvs := keyD ks) ?_ (fun L hL => (e_fldR (fs := [("boxes", .r ab), ("ends", .r ae), ("partners", .r ap)]) Tp.cl_Broad Tp.na_Broad_partners (e_var (i := 0) rfl) (fun G H z => ca_ins (hL G H z) b_ins) rfl)) (fun L => e_var rfl) b_rf nn2 (by rw [List.length_map]; omega) fap fun p np1 np2 => ⟨bCs K Tp.C_Broad q ab ae ap tb (pt2 ++ [(n, p, ks)]), fun c hc => ?_, ?_⟩
  · have z := ek_dc (K := K) (ρ := [some (.r q), some (.i n), some (.d (bxd b)), some (.d (enD (ofB b))), some (.d (.list (ks.map PyData.int))), none, none]) (I := (cA (bCs K Tp.C_Broad q ab ae ap tb pt2)).and J) (ks := ks) (es := ks.map fun _ => PyData.bool true) (vs := [6]) (g := gName 6) (tk := tVar 6) (te := tC (.bl true)) (iw_l (ds := ks.map PyData.int) (e_var (i := 4) rfl)) (by rw [List.length_map]) (by rw [List.length_map, List.length_map]) (by rw [List.length_map]; omega) nk fun i m y hi hm hy => by
      rw [List.getElem?_map, Option.map_eq_some_iff] at hy
      obtain ⟨_, _, rfl⟩ := hy
      rw [at0_map (f := PyData.int) hm]
      exact ⟨_, w_name List.mem_cons_self, fun I' => e_var rfl, fun I' => e_bl⟩
    have e : PL.kvsOf ks (ks.map fun _ => PyData.bool true) = keyD ks := by
      unfold PL.kvsOf keyD
      have : ∀ l : List Int, (l.zip (l.map fun _ => PyData.bool true)).map (fun p => ((.inl p.1 : Key), p.2)) = l.map fun k => (.inl k, .bool true) := by
        intro l
        induction l with
        | nil => rfl
        | cons k l ih => rw [List.map_cons, List.zip_cons_cons, List.map_cons, List.map_cons, ih]
      exact this ks
    rw [e] at z
    exact z
  · rcases b_cases hc with rfl | rfl | rfl | rfl | ⟨e, he, rfl⟩
    · exact .inr (.inr ⟨ad2.qp, b_ins⟩)
    · exact .inr (.inr ⟨ad2.bp, b_bx⟩)
    · exact .inr (.inr ⟨ad2.ep, b_en⟩)
    · rw [List.map_append]
      exact .inr (.inl rfl)
    · rcases List.mem_append.mp he with he | he
      · exact .inr (.inr ⟨(ad2.pq e he).2.2.2, b_pt he⟩)
      · rw [List.mem_singleton.mp he]
        exact .inl rfl
  have nin := padr p np1
  have bk2 := fin p nin
  have ad3 : Ad (pt2 ++ [(n, p, ks)]) q ab ae ap := ad_of bk2.ad
  refine s_seq (s_putC (cs' := bC2 K Tp.C_Broad q ab ae ap (tb ++ [(n, b)]) tb (pt2 ++ [(n, p, ks)])) (cs := bC2 K Tp.C_Broad q ab ae ap tb tb (pt2 ++ [(n, p, ks)])) (q1 := J) (a := ab) (kvs := bxsD tb) (x := bxd b) (e_var rfl) (e_fldR (fs := [("boxes", .r ab), ("ends", .r ae), ("partners", .r ap)]) Tp.cl_Broad Tp.na_Broad_boxes (e_var (i := 0) rfl) (fun G H z => ca_ins z.1 b_ins) rfl) (e_var rfl) b2_bx (by unfold bxsD; rw [List.length_map]; omega) fab (by rw [put_bx hn]; exact b2_1 ad3)) ?_
  refine s_endM (Y := cA (bCs K Tp.C_Broad q ab ae ap (tb ++ [(n, b)]) (pt2 ++ [(n, p, ks)]))) (s_putC (cs' := bC2 K Tp.C_Broad q ab ae ap (tb ++ [(n, b)]) (tb ++ [(n, b)]) (pt2 ++ [(n, p, ks)])) (q1 := J) (a := ae) (kvs := ensD tb) (x := enD (ofB b)) (e_var rfl) (e_fldR (fs := [("boxes", .r ab), ("ends", .r ae), ("partners", .r ap)]) Tp.cl_Broad Tp.na_Broad_ends (e_var (i := 0) rfl) (fun G H z => ca_ins z.1 b2_ins) rfl) (e_var rfl) b2_en (by unfold ensD; rw [List.length_map]; omega) fae (by rw [put_en hn]; exact b2_2 ad3)) ⟨rfl, ab, ae, ap, _, bk2, rfl⟩ (b_apart fq fab fae fap fun e he => ?_)
  rcases List.mem_append.mp he with he | he
  · exact fpt2 e he
  · rw [List.mem_singleton.mp he]
    exact np2
theorem fok_time_within (Tp : Top K mg base) : FnOk P w K mg base (L2.CX P w) 5 Tp.f_time_within Tp.d_time_within ["ends", "origin", "path"] (spX K RWithinT) := by
  have G_stretch_within := fok_stretch_within (P := P) (w := w) (base := base) Tp
  refine Tp.F_time_within.okX sc_time_within (fun vs H Q E h => len_X (fun _ _ ⟨_, _, _, _, _, e, _⟩ => by rw [e]; rfl) h) (fun cdv A outer s H vs Q E hr h => ?_)
  refine ⟨_, (pss_cons (ps_set (i := 3) sc_time_within.nd rfl (.inl rfl) (pe_call G_stretch_within (hr.mono (by decide)) (by rfl) Tp.g_stretch_within Tp.F_stretch_within.kp Tp.b_stretch_within .nil (passes_call (takes_of rfl rfl rfl rfl) (fun _ _ _ _ z => z)) (pa_cons (pv 0) (pa_cons (pv 1) (pa_cons (pv 2) pa_nil)))))
      (pss_cons (ps_if (pt_cmpR op_isN (pv 3) pe_non (nomark _)) (pss_one (ps_ret pe_non)) pss_nil)
      (pss_one (ps_ret (pe_ix (r := rIxT K) ix_tup (pv 3) pe_int (fun _ _ => rfl)))))), body_X ?_ h⟩
  refine fun ds r hr I hx => ?_
  obtain ⟨b, o0, o1, w0, w1, rfl, ok, rfl⟩ := hr
  walk_at "norm"
  refine q_asg (d := .d (optD (rayM (cxA b.p0 b.s0 o0 w0) (cxA b.p1 b.s1 o1 w1)))) (e_callX (R := RWithin) (ds := [.t [vcd b.p0 (plusM b.p0 b.s0), vcd b.p1 (plusM b.p1 b.s1)], .d (vcd o0 o1), .d (vcd w0 w1)]) (by walk_at "ev") ⟨b, o0, o1, w0, w1, rfl, ok, rfl⟩) ?_
  cases rayM (cxA b.p0 b.s0 o0 w0) (cxA b.p1 b.s1 o1 w1) with
  | none => exact s_stop (q_ifT (p_test (e_isN (x := .none) (e_var rfl) e_non)) rfl (p_ret e_non))
  | some s => exact q_skip (p_test (e_isN (x := pr s) (e_var rfl) e_non)) rfl (p_ret (p_i0 (e_var rfl)))
theorem fok_Tree_near (Tp : Top K mg base) : FnOk P w K mg base (L2.CX P w) 5 Tp.f_Tree_near Tp.d_Tree_near ["self", "box"] (spQ K Tp.tabs (RNear (IsT K Tp.C_Tree))) := by
  have G_check_box := fok_check_box (P := P) (w := w) (base := base) Tp
  have G_names_meeting := fok_names_meeting (P := P) (w := w) (base := base) Tp
  have G_ends_of := fok_ends_of (P := P) (w := w) (base := base) Tp
  refine Tp.F_Tree_near.okX sc_Tree_near (fun vs H Q E h => len_Q (fun _ _ _ ⟨_, _, _, e, _⟩ => by rw [e]; rfl) h) (fun cdv A outer s H vs Q E hr h => ?_)
  refine ⟨_, (pss_cons (ps_expr (pe_call G_check_box (hr.mono (by decide)) (by rfl) Tp.g_check_box Tp.F_check_box.kp Tp.b_check_box .nil (passes_call (takes_of rfl rfl rfl rfl) (fun _ _ _ _ z => z)) (pa_cons (pv 1) pa_nil)))
      (pss_one (ps_ret (pe_callTy call_tuple_of (by rfl) Tp.n_tuple (by decide +kernel) (pa_cons (pe_call G_names_meeting (hr.mono (by decide)) (by rfl) Tp.g_names_meeting Tp.F_names_meeting.kp Tp.b_names_meeting .nil pass0 (pa_cons (pe_fld (pv 0) rfl) (pa_cons (pe_call G_ends_of (hr.mono (by decide)) (by rfl) Tp.g_ends_of Tp.F_ends_of.kp Tp.b_ends_of .nil pass0 (pa_cons (pv 1) pa_nil)) pa_nil))) pa_nil))))), body_Q ?_ h⟩
  refine fun ds Z d r I hT hZ => ?_
  obtain ⟨q, b, tb, rfl, ⟨ab, top, ne, tk, rfl⟩, hb, rfl⟩ := r
  walk_at "norm"
  refine s_seq (s_drop (e_callX (R := RCheck Tp.c_BoxError) (ds := [.d (bxd b)]) (d := .d .none) (p_cons (e_var rfl) a_nil) ⟨b, rfl, .inl ⟨hb.sz, rfl⟩⟩)) ?_
  rw [show srtI (metL (enT tb) (ofB b)) = srtI (metL (lvsO top) (ofB b)) from srtI_eq (met_pm tk.pm.symm _)]
  obtain ⟨k1, k2, k3, k4⟩ := hb.ok
  exact p_ret (e_tupOf (p_cons (e_call (T := Tp.tabs) (R := RMet) (ds := [.d (topD top), .d (enD (ofB b))]) (p_cons (e_fldR (fs := [("_boxes", .r ab), ("_top", .d (topD top))]) Tp.cl_Tree Tp.na_Tree__top (e_var (i := 0) rfl) (fun G H z => ca_ins (hZ G H z) t_ins) rfl) (p_cons (p_call (R := REnds) (ds := [.d (bxd b)]) (p_cons (e_var rfl) a_nil) ⟨b, rfl, k1, k2, k3, k4, rfl⟩) a_nil)) ⟨top, ofB b, rfl, tk.ok, by have := tk.len; omega, hb.en, rfl⟩) a_nil))
theorem fok_law_beside (Tp : Top K mg base) : FnOk P w K mg base CX0 5 Tp.f_law_beside Tp.d_law_beside ["d", "box", "size"] (spW K RBesideG) := by
  have G_law_take := fok_law_take (P := P) (w := w) (base := base) Tp
  have G_law_plus := fok_law_plus (P := P) (w := w) (base := base) Tp
  have G_law_high := fok_law_high (P := P) (w := w) (base := base) Tp
  have G_law_minus := fok_law_minus (P := P) (w := w) (base := base) Tp
  have G_law_part := fok_law_part (P := P) (w := w) (base := base) Tp
  refine Tp.F_law_beside.ok sc_law_beside (fun vs H Q E h => len_W (fun _ _ _ _ ⟨_, _, _, _, e, _⟩ => by rw [e]; rfl) h) (fun cdv A outer s H vs Q E hr h => ?_)
  refine ⟨_, (pss_cons (ps_set (i := 3) sc_law_beside.nd rfl (.inl rfl) (pe_call G_law_take (hr.mono (by decide)) (by rfl) Tp.g_law_take Tp.F_law_take.kp Tp.b_law_take .nil pass0 (pa_cons (pv 0) (pa_cons pe_int pa_nil))))
      (pss_cons (ps_set (i := 4) sc_law_beside.nd rfl (.inl rfl) (pe_lst (pa_cons (pe_call G_law_plus (hr.mono (by decide)) (by rfl) Tp.g_law_plus Tp.F_law_plus.kp Tp.b_law_plus .nil pass0 (pa_cons (pe_ix (r := rIxT K) ix_tup (pe_ix (r := rIxT K) ix_tup (pv 1) pe_int (fun _ _ => rfl)) pe_int (fun _ _ => rfl)) (pa_cons (pe_call G_law_part (hr.mono (by decide)) (by rfl) Tp.g_law_part Tp.F_law_part.kp Tp.b_law_part .nil pass0 (pa_cons (pv 0) (pa_cons pe_int pa_nil))) pa_nil))) (pa_cons (pe_call G_law_plus (hr.mono (by decide)) (by rfl) Tp.g_law_plus Tp.F_law_plus.kp Tp.b_law_plus .nil pass0 (pa_cons (pe_ix (r := rIxT K) ix_tup (pe_ix (r := rIxT K) ix_tup (pv 1) pe_int (fun _ _ => rfl)) pe_int (fun _ _ => rfl)) (pa_cons (pe_call G_law_part (hr.mono (by decide)) (by rfl) Tp.g_law_part Tp.F_law_part.kp Tp.b_law_part .nil pass0 (pa_cons (pv 0) (pa_cons pe_int pa_nil))) pa_nil))) pa_nil))))
      (pss_cons (ps_asg (pe_ifExp (pt_cmpR op_eq (pe_call G_law_take (hr.mono (by decide)) (by rfl) Tp.g_law_take Tp.F_law_take.kp Tp.b_law_take .nil pass0 (pa_cons (pv 0) (pa_cons pe_int pa_nil))) pe_int (nomark _)) (pe_call G_law_high (hr.mono (by decide)) (by rfl) Tp.g_law_high Tp.F_law_high.kp Tp.b_law_high .nil pass0 (pa_cons (pv 1) (pa_cons (pv 3) pa_nil))) (pe_call G_law_minus (hr.mono (by decide)) (by rfl) Tp.g_law_minus Tp.F_law_minus.kp Tp.b_law_minus .nil pass0 (pa_cons (pe_ix (r := rIxT K) ix_tup (pe_ix (r := rIxT K) ix_tup (pv 1) pe_int (fun _ _ => rfl)) (pv 3) (fun _ _ => rfl)) (pa_cons (pe_ix (r := rIxT K) ix_tup (pv 2) (pv 3) (fun _ _ => rfl)) pa_nil)))) (pg_sub (pv 4) (pv 3) set_list))
      (pss_cons (ps_if (pt_cmpR op_eq (pe_call G_law_take (hr.mono (by decide)) (by rfl) Tp.g_law_take Tp.F_law_take.kp Tp.b_law_take .nil pass0 (pa_cons (pv 0) (pa_cons pe_int pa_nil))) pe_int (nomark _)) (pss_one (ps_asg (pe_ix (r := rIxT K) ix_tup (pe_ix (r := rIxT K) ix_tup (pv 1) pe_int (fun _ _ => rfl)) (pe_op op_sub pe_int (pv 3)) (fun _ _ => rfl)) (pg_sub (pv 4) (pe_op op_sub pe_int (pv 3)) set_list))) pss_nil)
      (pss_one (ps_ret (pe_tup (pa_cons (pe_ix (r := rIxL K) ix_list (pv 4) pe_int (fun _ _ => rfl)) (pa_cons (pe_ix (r := rIxL K) ix_list (pv 4) pe_int (fun _ _ => rfl)) pa_nil))))))))), body_W ?_ h⟩
  refine fun ds C d C' r p J hf => ?_
  obtain ⟨n, b, s0, s1, rfl, hn, ok, hb0, hs0, hs1, rfl, rfl⟩ := r
  have hb := hb0.o (by omega)
  replace hs0 : PL.Ok 20 s0 := hs0.ok (by decide) (by decide) (by decide)
  replace hs1 : PL.Ok 20 s1 := hs1.ok (by decide) (by decide) (by decide)
  walk_at "norm"
  have z9 : ∀ m : Int, m.natAbs < 2 ^ 4 → m.natAbs < 2 ^ 7000 := fun m h => sz_le h (by decide)
  have z9 : ∀ m : Int, m.natAbs < 2 ^ 4 → m.natAbs < 2 ^ 8500 := fun m h => sz_le h (by decide)
  obtain ⟨o1, k1, k2⟩ := take_ok (C := C) (m := 2) ok (by decide)
  obtain ⟨o2, px⟩ := part_ok (C := (take C 2).2) (m := 2) (n := 2) o1 (by decide) (by decide)
  obtain ⟨o3, py⟩ := part_ok (C := (partM (take C 2).2 2).2) (m := 2) (n := 2) o2 (by decide) (by decide)
  obtain ⟨o4, u1, u2⟩ := take_ok (C := (partM (partM (take C 2).2 2).2 2).2) (m := 2) o3 (by decide)
  refine s_seq (s_asg (e_draw (R := RTake) (ds := [.i 2]) (C := C) (by walk_at "ev") ⟨_, rfl, ok, by decide, z9 _ (by decide), rfl, rfl⟩ hf)) ?_
  refine s_newLA (ds := [.d (fr (lplus b.p0 (partM (take C 2).2 2).1)), .d (fr (lplus b.p1 (partM (partM (take C 2).2 2).2 2).1))]) (xs := [fr (lplus b.p0 (partM (take C 2).2 2).1), fr (lplus b.p1 (partM (partM (take C 2).2 2).2 2).1)]) (J := dJ K p (partM (partM (take C 2).2 2).2 2).2 J) (a_cons (e_call (R := RPlus lplus) (a_cons (p_ixT (ds := [fr b.p0, fr b.p1]) (i := 0) (p_i0 (e_var rfl)) e_int rfl) (a_cons (e_draw (R := RPart) (ds := [.i 2]) (by walk_at "ev") ⟨_, rfl, o1, by decide, sz_le (m := 3) (by decide) (by decide), rfl, rfl⟩ hf) a_nil)) (RPlus.mk hb.p0 px)) (a_cons (e_call (R := RPlus lplus) (a_cons (p_ixT (ds := [fr b.p0, fr b.p1]) (i := 1) (p_i0 (e_var rfl)) e_int rfl) (a_cons (e_draw (R := RPart) (ds := [.i 2]) (by walk_at "ev") ⟨_, rfl, o2, by decide, sz_le (m := 3) (by decide) (by decide), rfl, rfl⟩ hf) a_nil)) (RPlus.mk hb.p1 py)) a_nil)) (.cons (.cons .nil)) (show 2 ≤ 100000 by decide) fun q hq => ?_
  have hpq : p ≠ q := fun z => hq (.inl z.symm)
  have hqJ : ¬ J.foot q := fun z => hq (.inr z)
  have hq' : ∀ C2, ¬ (dJ K p C2 J).foot q := fun C2 z => by
    rcases z with z | z
    · exact hpq z.symm
    · exact hqJ z
  have hfq : ∀ ds, ¬ (lJ K q ds J).foot p := fun ds z => by
    rcases z with z | z
    · exact hpq z
    · exact hf z
  have hq' := hq' C
  refine s_pre (I' := dJ K p (partM (partM (take C 2).2 2).2 2).2 (lJ K q [fr (lplus b.p0 (partM (take C 2).2 2).1), fr (lplus b.p1 (partM (partM (take C 2).2 2).2 2).1)] J)) (fun _ _ z => ⟨z.2.1, z.1, z.2.2⟩) ?_
  have hk : (take C 2).1 = 0 ∨ (take C 2).1 = 1 := by omega
  rcases hk with k0 | k0 <;> rw [k0]
  · have nk : Int.toNat 0 = 0 := rfl
    let v : F := if (take (partM (partM (take C 2).2 2).2 2).2 2).1 = 1 then plusM b.p0 b.s0 else lminus b.p0 s0
    refine s_seq (J := lJ K q ([fr (lplus b.p0 (partM (take C 2).2 2).1), fr (lplus b.p1 (partM (partM (take C 2).2 2).2 2).1)].set 0 (fr v)) (dJ K p (take (partM (partM (take C 2).2 2).2 2).2 2).2 J)) (s_setL (j := 0) ?_ rfl (e_var rfl) (show 0 < 2 by decide) hq') ?_
    · by_cases c : (take (partM (partM (take C 2).2 2).2 2).2 2).1 = 1
      · rw [show v = plusM b.p0 b.s0 from if_pos c]
        exact e_ifT (t_is (t_test (e_eqI (i := (take (partM (partM (take C 2).2 2).2 2).2 2).1) (j := 1) (e_draw (R := RTake) (ds := [.i 2]) (by walk_at "ev") ⟨_, rfl, o3, by decide, z9 _ (by decide), rfl, rfl⟩ (hfq _)) e_int)) (decide_eq_true c)) (e_post (J := dJ K p (take (partM (partM (take C 2).2 2).2 2).2 2).2 (lJ K q [fr (lplus b.p0 (partM (take C 2).2 2).1), fr (lplus b.p1 (partM (partM (take C 2).2 2).2 2).1)] J)) (fun _ _ z => ⟨z.2.1, z.1, z.2.2⟩) (p_call (R := RHigh) (ds := [.d (bxd b), .i 0]) (by walk_at "ev") ⟨b, 0, rfl, .inl rfl, hb.p0.mono (by omega), hb.p1.mono (by omega), hb.s0.mono (by decide), hb.s1.mono (by decide), rfl⟩))
      · rw [show v = lminus b.p0 s0 from if_neg c]
        exact e_ifF (t_is (t_test (e_eqI (i := (take (partM (partM (take C 2).2 2).2 2).2 2).1) (j := 1) (e_draw (R := RTake) (ds := [.i 2]) (by walk_at "ev") ⟨_, rfl, o3, by decide, z9 _ (by decide), rfl, rfl⟩ (hfq _)) e_int)) (decide_eq_false c)) (e_post (J := dJ K p (take (partM (partM (take C 2).2 2).2 2).2 2).2 (lJ K q [fr (lplus b.p0 (partM (take C 2).2 2).1), fr (lplus b.p1 (partM (partM (take C 2).2 2).2 2).1)] J)) (fun _ _ z => ⟨z.2.1, z.1, z.2.2⟩) (p_call (R := RPlus lminus) (ds := [.d (fr b.p0), .d (fr s0)]) (p_cons (p_ixT (ds := [fr b.p0, fr b.p1]) (i := 0) (p_i0 (e_var rfl)) (e_var rfl) rfl) (p_cons (p_ixT (ds := [fr s0, fr s1]) (i := 0) (e_var rfl) (e_var rfl) rfl) a_nil)) (RPlus.mk hb.p0 hs0)))
    have ev_ : besideM C b s0 s1 = ((v, if (take (take (partM (partM (take C 2).2 2).2 2).2 2).2 4).1 = 1 then b.p1 else lplus b.p1 (partM (partM (take C 2).2 2).2 2).1), (take (take (partM (partM (take C 2).2 2).2 2).2 2).2 4).2) := by
      unfold besideM
      simp only [k0, if_true, if_false, v]
    rw [ev_]
    generalize v = vv at *
    generalize (partM (take C 2).2 2).1 = x at *
    generalize (partM (partM (take C 2).2 2).2 2).1 = y at *
    generalize (take (partM (partM (take C 2).2 2).2 2).2 2).2 = C4 at *
    refine s_pre (I' := dJ K p C4 (lJ K q [fr vv, fr (lplus b.p1 y)] J)) (fun _ _ z => ⟨z.2.1, z.1, z.2.2⟩) ?_
    have oc : DOk C4 := o4
    by_cases c : (take C4 4).1 = 1
    · rw [if_pos c]
      refine s_seq (J := lJ K q [fr vv, fr b.p1] (dJ K p (take C4 4).2 J)) (s_ifT (t_is (t_test (e_eqI (i := (take C4 4).1) (j := 1) (e_draw (R := RTake) (ds := [.i 4]) (by walk_at "ev") ⟨_, rfl, oc, by decide, z9 _ (by decide), rfl, rfl⟩ (hfq _)) e_int)) (decide_eq_true c)) (s_pre (I' := lJ K q [fr vv, fr (lplus b.p1 y)] (dJ K p (take C4 4).2 J)) (fun _ _ z => ⟨z.2.1, z.1, z.2.2⟩) (s_setL (j := 1) (p_ixT (ds := [fr b.p0, fr b.p1]) (i := 1) (p_i0 (e_var rfl)) (e_is (p_sub (i := 1) (j := 0) e_int (e_var rfl)) rfl) rfl) rfl (e_is (p_sub (i := 1) (j := 0) e_int (e_var rfl)) rfl) (show 1 < 2 by decide) hq'))) ?_
      refine s_freeze (i := 4) rfl hq' (s_ret (p_tup2 (p_cons (p_ixL (i := 0) (e_var rfl) e_int rfl) (p_cons (p_ixL (i := 1) (e_var rfl) e_int rfl) a_nil))))
    · rw [if_neg c]
      refine s_seq (J := lJ K q [fr vv, fr (lplus b.p1 y)] (dJ K p (take C4 4).2 J)) (s_ifF (t_is (t_test (e_eqI (i := (take C4 4).1) (j := 1) (e_draw (R := RTake) (ds := [.i 4]) (by walk_at "ev") ⟨_, rfl, oc, by decide, z9 _ (by decide), rfl, rfl⟩ (hfq _)) e_int)) (decide_eq_false c)) (s_post (J := dJ K p (take C4 4).2 (lJ K q [fr vv, fr (lplus b.p1 y)] J)) (fun _ _ z => ⟨z.2.1, z.1, z.2.2⟩) s_next)) ?_
      refine s_freeze (i := 4) rfl hq' (s_ret (p_tup2 (p_cons (p_ixL (i := 0) (e_var rfl) e_int rfl) (p_cons (p_ixL (i := 1) (e_var rfl) e_int rfl) a_nil))))
  · have nk : Int.toNat 0 = 0 := rfl
    let v : F := if (take (partM (partM (take C 2).2 2).2 2).2 2).1 = 1 then plusM b.p1 b.s1 else lminus b.p1 s1
    refine s_seq (J := lJ K q ([fr (lplus b.p0 (partM (take C 2).2 2).1), fr (lplus b.p1 (partM (partM (take C 2).2 2).2 2).1)].set 1 (fr v)) (dJ K p (take (partM (partM (take C 2).2 2).2 2).2 2).2 J)) (s_setL (j := 1) ?_ rfl (e_var rfl) (show 1 < 2 by decide) hq') ?_
    · by_cases c : (take (partM (partM (take C 2).2 2).2 2).2 2).1 = 1
      · rw [show v = plusM b.p1 b.s1 from if_pos c]
        exact e_ifT (t_is (t_test (e_eqI (i := (take (partM (partM (take C 2).2 2).2 2).2 2).1) (j := 1) (e_draw (R := RTake) (ds := [.i 2]) (by walk_at "ev") ⟨_, rfl, o3, by decide, z9 _ (by decide), rfl, rfl⟩ (hfq _)) e_int)) (decide_eq_true c)) (e_post (J := dJ K p (take (partM (partM (take C 2).2 2).2 2).2 2).2 (lJ K q [fr (lplus b.p0 (partM (take C 2).2 2).1), fr (lplus b.p1 (partM (partM (take C 2).2 2).2 2).1)] J)) (fun _ _ z => ⟨z.2.1, z.1, z.2.2⟩) (p_call (R := RHigh) (ds := [.d (bxd b), .i 1]) (by walk_at "ev") ⟨b, 1, rfl, .inr rfl, hb.p0.mono (by omega), hb.p1.mono (by omega), hb.s0.mono (by decide), hb.s1.mono (by decide), rfl⟩))
      · rw [show v = lminus b.p1 s1 from if_neg c]
        exact e_ifF (t_is (t_test (e_eqI (i := (take (partM (partM (take C 2).2 2).2 2).2 2).1) (j := 1) (e_draw (R := RTake) (ds := [.i 2]) (by walk_at "ev") ⟨_, rfl, o3, by decide, z9 _ (by decide), rfl, rfl⟩ (hfq _)) e_int)) (decide_eq_false c)) (e_post (J := dJ K p (take (partM (partM (take C 2).2 2).2 2).2 2).2 (lJ K q [fr (lplus b.p0 (partM (take C 2).2 2).1), fr (lplus b.p1 (partM (partM (take C 2).2 2).2 2).1)] J)) (fun _ _ z => ⟨z.2.1, z.1, z.2.2⟩) (p_call (R := RPlus lminus) (ds := [.d (fr b.p1), .d (fr s1)]) (p_cons (p_ixT (ds := [fr b.p0, fr b.p1]) (i := 1) (p_i0 (e_var rfl)) (e_var rfl) rfl) (p_cons (p_ixT (ds := [fr s0, fr s1]) (i := 1) (e_var rfl) (e_var rfl) rfl) a_nil)) (RPlus.mk hb.p1 hs1)))
    have ev_ : besideM C b s0 s1 = ((if (take (take (partM (partM (take C 2).2 2).2 2).2 2).2 4).1 = 1 then b.p0 else lplus b.p0 (partM (take C 2).2 2).1, v), (take (take (partM (partM (take C 2).2 2).2 2).2 2).2 4).2) := by
      unfold besideM
      simp only [k0, if_true, if_false, Int.one_ne_zero, v]
    rw [ev_]
    generalize v = vv at *
    generalize (partM (take C 2).2 2).1 = x at *
    generalize (partM (partM (take C 2).2 2).2 2).1 = y at *
    generalize (take (partM (partM (take C 2).2 2).2 2).2 2).2 = C4 at *
    refine s_pre (I' := dJ K p C4 (lJ K q [fr (lplus b.p0 x), fr vv] J)) (fun _ _ z => ⟨z.2.1, z.1, z.2.2⟩) ?_
    have oc : DOk C4 := o4
    by_cases c : (take C4 4).1 = 1
    · rw [if_pos c]
      refine s_seq (J := lJ K q [fr b.p0, fr vv] (dJ K p (take C4 4).2 J)) (s_ifT (t_is (t_test (e_eqI (i := (take C4 4).1) (j := 1) (e_draw (R := RTake) (ds := [.i 4]) (by walk_at "ev") ⟨_, rfl, oc, by decide, z9 _ (by decide), rfl, rfl⟩ (hfq _)) e_int)) (decide_eq_true c)) (s_pre (I' := lJ K q [fr (lplus b.p0 x), fr vv] (dJ K p (take C4 4).2 J)) (fun _ _ z => ⟨z.2.1, z.1, z.2.2⟩) (s_setL (j := 0) (p_ixT (ds := [fr b.p0, fr b.p1]) (i := 0) (p_i0 (e_var rfl)) (e_is (p_sub (i := 1) (j := 1) e_int (e_var rfl)) rfl) rfl) rfl (e_is (p_sub (i := 1) (j := 1) e_int (e_var rfl)) rfl) (show 0 < 2 by decide) hq'))) ?_
      refine s_freeze (i := 4) rfl hq' (s_ret (p_tup2 (p_cons (p_ixL (i := 0) (e_var rfl) e_int rfl) (p_cons (p_ixL (i := 1) (e_var rfl) e_int rfl) a_nil))))
    · rw [if_neg c]
      refine s_seq (J := lJ K q [fr (lplus b.p0 x), fr vv] (dJ K p (take C4 4).2 J)) (s_ifF (t_is (t_test (e_eqI (i := (take C4 4).1) (j := 1) (e_draw (R := RTake) (ds := [.i 4]) (by walk_at "ev") ⟨_, rfl, oc, by decide, z9 _ (by decide), rfl, rfl⟩ (hfq _)) e_int)) (decide_eq_false c)) (s_post (J := dJ K p (take C4 4).2 (lJ K q [fr (lplus b.p0 x), fr vv] J)) (fun _ _ z => ⟨z.2.1, z.1, z.2.2⟩) s_next)) ?_
      refine s_freeze (i := 4) rfl hq' (s_ret (p_tup2 (p_cons (p_ixL (i := 0) (e_var rfl) e_int rfl) (p_cons (p_ixL (i := 1) (e_var rfl) e_int rfl) a_nil))))
theorem fok_Broad_add (Tp : Top K mg base) : FnOk P w K mg base (L2.CX P w) 6 Tp.f_Broad_add Tp.d_Broad_add ["self", "name", "box"] (spM K Tp.tabs (RAdd (IsB K Tp.C_Broad))) := by
  have G_check_unused := fok_check_unused (P := P) (w := w) (base := base) Tp
  have G_check_box := fok_check_box (P := P) (w := w) (base := base) Tp
  have G_Broad_put := fok_Broad_put (P := P) (w := w) (base := base) Tp
  refine Tp.F_Broad_add.okX sc_Broad_add (fun vs H Q E h => len_M (fun _ _ _ ⟨_, _, _, _, e, _⟩ => by rw [e]; rfl) h) (fun cdv A outer s H vs Q E hr h => ?_)
  refine ⟨_, (pss_cons (ps_expr (pe_call G_check_unused (hr.mono (by decide)) (by rfl) Tp.g_check_unused Tp.F_check_unused.kp Tp.b_check_unused .nil (passes_call (takes_of rfl rfl rfl rfl) (fun _ _ _ _ z => z)) (pa_cons (pe_fld (pv 0) rfl) (pa_cons (pv 1) pa_nil))))
      (pss_cons (ps_expr (pe_call G_check_box (hr.mono (by decide)) (by rfl) Tp.g_check_box Tp.F_check_box.kp Tp.b_check_box .nil (passes_call (takes_of rfl rfl rfl rfl) (fun _ _ _ _ z => z)) (pa_cons (pv 2) pa_nil)))
      (pss_one (ps_expr (pe_meth (pv 0) Tp.cl_Broad Tp.me_Broad_put G_Broad_put (hr.mono (by decide)) Tp.b_Broad_put .nil pass0 (pa_cons (pv 1) (pa_cons (pv 2) pa_nil))))))), body_V ?_ h⟩
  refine fun ds Z Po r J hT ap => ?_
  obtain ⟨q, n, b, tb, rfl, hIs, h0, hn, hb, hl, rfl⟩ := r
  have hIs0 := hIs
  obtain ⟨ab, ae, ap1, pt, bk, rfl⟩ := hIs
  have nd0 := bk.t0.nd
  have le0 := bk.t0.le
  walk_at "norm"
  refine s_seq (s_drop (e_callQ (R := RUnused K) (Z := kA K ab (bxsD tb)) (ds := [.r ab, .i n]) (d := .d .none) (p_cons (e_fldR (fs := [("boxes", .r ab), ("ends", .r ae), ("partners", .r ap1)]) Tp.cl_Broad Tp.na_Broad_boxes (e_var (i := 0) rfl) (fun G H z => ca_ins z.1 b_ins) rfl) (p_cons (e_var rfl) a_nil)) (fun G H z => ca_k z.1 b_bx) ⟨ab, bxsD tb, n, rfl, rfl, h0, val_no hn, rfl⟩)) ?_
  refine s_seq (s_drop (e_callX (R := RCheck Tp.c_BoxError) (ds := [.d (bxd b)]) (d := .d .none) (p_cons (e_var rfl) a_nil) ⟨b, rfl, .inl ⟨hb.sz, rfl⟩⟩)) ?_
  exact s_dropN (en_methM (T := Tp.tabs) (R := RPutO (IsB K Tp.C_Broad)) (ds := [.i n, .d (bxd b)]) (q := q) (Z := cA (bCs K Tp.C_Broad q ab ae ap1 tb pt)) (e_var rfl) (p_cons (e_var rfl) (p_cons (e_var rfl) a_nil)) (fun G H z => ca_look z b_ins rfl) ⟨q, n, b, tb, rfl, hIs0, hn, hb, hl, rfl⟩  ap (P := fun d L => ∃ Y, (d = .d .none ∧ (IsB K Tp.C_Broad) q (tb ++ [(n, b)]) Y) ∧ Apart Y J ∧ L = Y.and J) fun d Y po a2 => ⟨Y, po, a2, rfl⟩) fun d L ⟨Y, po, a2, e⟩ => ⟨Y, ⟨rfl, po.2⟩, a2, fun _ _ z => e ▸ z⟩
theorem fok_Broad_move (Tp : Top K mg base) : FnOk P w K mg base (L2.CX P w) 6 Tp.f_Broad_move Tp.d_Broad_move ["self", "name", "box"] (spM K Tp.tabs (RMove (IsB K Tp.C_Broad))) := by
  have G_check_used := fok_check_used (P := P) (w := w) (base := base) Tp
  have G_check_box := fok_check_box (P := P) (w := w) (base := base) Tp
  have G_Broad_take := fok_Broad_take (P := P) (w := w) (base := base) Tp
  have G_Broad_put := fok_Broad_put (P := P) (w := w) (base := base) Tp
  refine Tp.F_Broad_move.okX sc_Broad_move (fun vs H Q E h => len_M (fun _ _ _ ⟨_, _, _, _, e, _⟩ => by rw [e]; rfl) h) (fun cdv A outer s H vs Q E hr h => ?_)
  refine ⟨_, (pss_cons (ps_expr (pe_call G_check_used (hr.mono (by decide)) (by rfl) Tp.g_check_used Tp.F_check_used.kp Tp.b_check_used .nil (passes_call (takes_of rfl rfl rfl rfl) (fun _ _ _ _ z => z)) (pa_cons (pe_fld (pv 0) rfl) (pa_cons (pv 1) pa_nil))))
      (pss_cons (ps_expr (pe_call G_check_box (hr.mono (by decide)) (by rfl) Tp.g_check_box Tp.F_check_box.kp Tp.b_check_box .nil (passes_call (takes_of rfl rfl rfl rfl) (fun _ _ _ _ z => z)) (pa_cons (pv 2) pa_nil)))
      (pss_cons (ps_expr (pe_meth (pv 0) Tp.cl_Broad Tp.me_Broad_take G_Broad_take (hr.mono (by decide)) Tp.b_Broad_take .nil pass0 (pa_cons (pv 1) pa_nil)))
      (pss_one (ps_expr (pe_meth (pv 0) Tp.cl_Broad Tp.me_Broad_put G_Broad_put (hr.mono (by decide)) Tp.b_Broad_put .nil pass0 (pa_cons (pv 1) (pa_cons (pv 2) pa_nil)))))))), body_V ?_ h⟩
  refine fun ds Z Po r J hT ap => ?_
  obtain ⟨q, n, b, tb, rfl, hIs, hn, hb, rfl⟩ := r
  have hIs0 := hIs
  obtain ⟨ab, ae, ap1, pt, bk, rfl⟩ := hIs
  have nd0 := bk.t0.nd
  have le0 := bk.t0.le
  walk_at "norm"
  obtain ⟨b0, hb0⟩ := has_bx hn
  refine s_seq (s_drop (e_callQ (R := RUsed K) (Z := kA K ab (bxsD tb)) (ds := [.r ab, .i n]) (d := .d .none) (p_cons (e_fldR (fs := [("boxes", .r ab), ("ends", .r ae), ("partners", .r ap1)]) Tp.cl_Broad Tp.na_Broad_boxes (e_var (i := 0) rfl) (fun G H z => ca_ins z.1 b_ins) rfl) (p_cons (e_var rfl) a_nil)) (fun G H z => ca_k z.1 b_bx) ⟨ab, bxsD tb, n, _, rfl, rfl, val_bx nd0 hb0, rfl⟩)) ?_
  refine s_seq (s_drop (e_callX (R := RCheck Tp.c_BoxError) (ds := [.d (bxd b)]) (d := .d .none) (p_cons (e_var rfl) a_nil) ⟨b, rfl, .inl ⟨hb.sz, rfl⟩⟩)) ?_
  have dl := del_len hn
  refine s_dropNS (en_methM (T := Tp.tabs) (R := RTake (IsB K Tp.C_Broad)) (ds := [.i n]) (q := q) (Z := cA (bCs K Tp.C_Broad q ab ae ap1 tb pt)) (e_var rfl) (p_cons (e_var rfl) a_nil) (fun G H z => ca_look z b_ins rfl) ⟨q, n, tb, rfl, hIs0, hn, rfl⟩  ap (P := fun d L => ∃ Y, (IsB K Tp.C_Broad) q (delT tb n) Y ∧ Apart Y J ∧ L = Y.and J) fun d Y po a2 => ⟨Y, po.2, a2, rfl⟩) fun d L ⟨Y, po, a2, e⟩ => ?_
  subst e
  have zlook : ∀ (m : Str) G H, Y.ok G H → m ∈ [("_put" : Str)] → ∃ dx us, H q = some (.ins Tp.C_Broad dx us) ∧ us.lookup m = none := by
    intro m G H z hm
    have hIs := po
    obtain ⟨ab, ae, ap1, pt, bk, rfl⟩ := hIs
    rw [List.mem_singleton.mp hm]
    exact ca_look z b_ins rfl
  exact s_dropN (en_methM (T := Tp.tabs) (R := RPutO (IsB K Tp.C_Broad)) (ds := [.i n, .d (bxd b)]) (q := q) (Z := Y) (e_var rfl) (p_cons (e_var rfl) (p_cons (e_var rfl) a_nil)) (fun G H z => zlook _ _ _ z List.mem_cons_self) ⟨q, n, b, delT tb n, rfl, po, del_no, hb, by omega, rfl⟩  a2 (P := fun d L => ∃ Y, (d = .d .none ∧ (IsB K Tp.C_Broad) q (delT tb n ++ [(n, b)]) Y) ∧ Apart Y J ∧ L = Y.and J) fun d Y po a2 => ⟨Y, po, a2, rfl⟩) fun d L ⟨Y, po, a2, e⟩ => ⟨Y, ⟨rfl, po.2⟩, a2, fun _ _ z => e ▸ z⟩
theorem fok_law_box (Tp : Top K mg base) : FnOk P w K mg base CX0 6 Tp.f_law_box Tp.d_law_box ["d", "boxes"] (spN K (RBoxN K)) := by
  have G_law_size := fok_law_size (P := P) (w := w) (base := base) Tp
  have G_law_vector := fok_law_vector (P := P) (w := w) (base := base) Tp
  have G_law_take := fok_law_take (P := P) (w := w) (base := base) Tp
  have G_law_beside := fok_law_beside (P := P) (w := w) (base := base) Tp
  refine Tp.F_law_box.ok sc_law_box (fun vs H Q E h => len_N (fun _ _ _ _ ⟨_, _, _, _, _, _, e, _⟩ => by rcases e with ⟨e, _⟩ | ⟨_, e, _⟩ <;> rw [e] <;> rfl) h) (fun cdv A outer s H vs Q E hr h => ?_)
  refine ⟨_, (pss_cons (ps_set (i := 2) sc_law_box.nd rfl (.inl rfl) (pe_call G_law_size (hr.mono (by decide)) (by rfl) Tp.g_law_size Tp.F_law_size.kp Tp.b_law_size .nil pass0 (pa_cons (pv 0) pa_nil)))
      (pss_cons (ps_if (PW.pt (pw_and (pt_cmpR op_gt (pe_callB call_len_seq (by rfl) Tp.n_len (by decide +kernel) (pa_cons (pv 1) pa_nil)) pe_int (nomark _)) (pw_and1 (pt_cmpR op_gt (pe_call G_law_take (hr.mono (by decide)) (by rfl) Tp.g_law_take Tp.F_law_take.kp Tp.b_law_take .nil pass0 (pa_cons (pv 0) (pa_cons pe_int pa_nil))) pe_int (nomark _))))) (pss_one (ps_ret (pe_tup (pa_cons (pe_call G_law_beside (hr.mono (by decide)) (by rfl) Tp.g_law_beside Tp.F_law_beside.kp Tp.b_law_beside .nil pass0 (pa_cons (pv 0) (pa_cons (pe_ix (r := rIxL K) ix_list (pv 1) (pe_call G_law_take (hr.mono (by decide)) (by rfl) Tp.g_law_take Tp.F_law_take.kp Tp.b_law_take .nil pass0 (pa_cons (pv 0) (pa_cons (pe_callB call_len_seq (by rfl) Tp.n_len (by decide +kernel) (pa_cons (pv 1) pa_nil)) pa_nil))) (fun _ _ => rfl)) (pa_cons (pv 2) pa_nil)))) (pa_cons (pv 2) pa_nil))))) pss_nil)
      (pss_one (ps_ret (pe_tup (pa_cons (pe_call G_law_vector (hr.mono (by decide)) (by rfl) Tp.g_law_vector Tp.F_law_vector.kp Tp.b_law_vector .nil pass0 (pa_cons (pv 0) (pa_cons pe_int pa_nil))) (pa_cons (pv 2) pa_nil))))))), body_N ?_ h⟩
  refine fun ds C Z Po r p J hf zp => ?_
  obtain ⟨n, bs, ok, hn, hbs, hlb, hd, rfl⟩ := r
  have hfZ : ¬ (Z.and J).foot p := fun z => z.elim zp hf
  have z9 : ∀ m : Int, m.natAbs < 2 ^ 4 → m.natAbs < 2 ^ 8500 := fun m h => sz_le h (by decide)
  obtain ⟨o1, y0, y1, u0, u1⟩ := size_sm ok
  have sz : (decide (0 < (sizeM C).1.1.1) && decide (0 < (sizeM C).1.2.1)) = true := by
    rw [decide_eq_true u0, decide_eq_true u1]
    rfl
  rcases hd with ⟨rfl, rfl⟩ | ⟨q, rfl, rfl⟩
  · walk_at "norm"
    refine s_preN ?_
    replace hfZ := hf
    refine s_seq (s_asg (d := .t [fr (sizeM C).1.1, fr (sizeM C).1.2]) (e_draw (R := RSize) (ds := []) (C := C) (by walk_at "ev") ⟨rfl, ok, rfl, rfl⟩ hfZ)) ?_
    by_cases hne : bs = []
    · subst hne
      refine q_skip (b := false) (t_andF (t_is (p_test (p_gt (i := (([] : List PyData).length : Nat)) (j := 0) (p_len (ds := []) (p_cons (e_var rfl) a_nil)) e_int)) rfl)) rfl ?_
      obtain ⟨oe, v0, v1⟩ := vec_sm (C := (sizeM C).2) (m := 5) o1 (by decide)
      exact s_retN (s_ret (e_tup (a_cons (e_draw (R := RVec) (ds := [.i 5]) (by walk_at "ev") ⟨_, rfl, o1, by decide, sz_le (m := 3) (by decide) (by decide), rfl, rfl⟩ hfZ) (a_cons (e_var rfl) a_nil)) (.cons (.cons .nil)) (show 2 ≤ 100000 by decide))) ⟨oe, ⟨(vecM (sizeM C).2 5).1.1, (vecM (sizeM C).2 5).1.2, _, _⟩, rfl, ⟨v0.up (by omega), v1.up (by omega), y0, y1⟩, sz⟩
    have hl0 : 0 < bs.length := List.length_pos_iff.mpr hne
    obtain ⟨o2, t1, t2⟩ := take_ok (C := (sizeM C).2) (m := 3) o1 (by decide)
    have lm : 0 < ((bs.length : Nat) : Int) := by omega
    have zl : ((bs.length : Nat) : Int).natAbs < 2 ^ 8500 := sz_le (m := 20) (by omega) (by decide)
    obtain ⟨o3, t3, t4⟩ := take_ok (C := (take (sizeM C).2 3).2) (m := ((bs.length : Nat) : Int)) o2 lm
    by_cases c : 0 < (take (sizeM C).2 3).1
    · obtain ⟨idx, hidx⟩ : ∃ idx : Nat, (take (take (sizeM C).2 3).2 ((bs.length : Nat) : Int)).1 = (idx : Nat) := ⟨_, (Int.toNat_of_nonneg t3).symm⟩
      have hi : idx < bs.length := by omega
      have hb := hbs bs[idx] (List.getElem_mem hi)
      have hg : (bs.map fun b => bxd b)[idx]? = some (bxd bs[idx]) := by rw [List.getElem?_map, List.getElem?_eq_getElem hi]; rfl
      obtain ⟨oe, b0, b1⟩ := besideN_ok o3 hb y0 y1
      refine s_stopR ret_fin (s_ifT (t_andT (t_is (p_test (p_gt (i := ((bs.map fun b => bxd b).length : Nat)) (j := 0) (p_len (ds := (bs.map fun b => bxd b)) (p_cons (e_var rfl) a_nil)) e_int)) (decide_eq_true (by rw [List.length_map]; exact lm))) (t_is (t_test (e_gt (i := (take (sizeM C).2 3).1) (j := 0) (e_draw (R := RTake) (ds := [.i 3]) (by walk_at "ev") ⟨_, rfl, o1, by decide, z9 _ (by decide), rfl, rfl⟩ hfZ) e_int)) (decide_eq_true c))) ?_)
      exact s_retN (s_ret (e_tup (a_cons (e_draw (R := RBesideG) (ds := [.d (bxd bs[idx]), .t [fr (sizeM C).1.1, fr (sizeM C).1.2]]) (a_cons (e_var rfl) (a_cons (e_ixL (j := idx) (e_var rfl) (e_is (e_draw (R := RTake) (ds := [.i ((bs.length : Nat) : Int)]) (p_cons (e_var rfl) (p_cons (e_is (p_len (ds := (bs.map fun b => bxd b)) (p_cons (e_var rfl) a_nil)) (by rw [List.length_map])) a_nil)) ⟨_, rfl, o2, lm, zl, rfl, rfl⟩ hfZ) (by rw [hidx])) hg) (a_cons (e_var rfl) a_nil))) ⟨n, bs[idx], _, _, rfl, hn.2, o3, hb, y0, y1, rfl, rfl⟩ hfZ) (a_cons (e_var rfl) a_nil)) (.cons (.cons .nil)) (show 2 ≤ 100000 by decide))) ⟨oe, ⟨_, _, _, _⟩, rfl, ⟨b0, b1, y0, y1⟩, sz⟩
    · obtain ⟨oe, v0, v1⟩ := vec_sm (C := (take (sizeM C).2 3).2) (m := 5) o2 (by decide)
      refine s_seq (s_ifF (t_andT (t_is (p_test (p_gt (i := ((bs.map fun b => bxd b).length : Nat)) (j := 0) (p_len (ds := (bs.map fun b => bxd b)) (p_cons (e_var rfl) a_nil)) e_int)) (decide_eq_true (by rw [List.length_map]; exact lm))) (t_is (t_test (e_gt (i := (take (sizeM C).2 3).1) (j := 0) (e_draw (R := RTake) (ds := [.i 3]) (by walk_at "ev") ⟨_, rfl, o1, by decide, z9 _ (by decide), rfl, rfl⟩ hfZ) e_int)) (decide_eq_false c))) s_next) ?_
      exact s_retN (s_ret (e_tup (a_cons (e_draw (R := RVec) (ds := [.i 5]) (by walk_at "ev") ⟨_, rfl, o2, by decide, sz_le (m := 3) (by decide) (by decide), rfl, rfl⟩ hfZ) (a_cons (e_var rfl) a_nil)) (.cons (.cons .nil)) (show 2 ≤ 100000 by decide))) ⟨oe, ⟨_, _, _, _⟩, rfl, ⟨v0.up (by omega), v1.up (by omega), y0, y1⟩, sz⟩
  · walk_at "norm"
    refine s_seq (s_asg (d := .t [fr (sizeM C).1.1, fr (sizeM C).1.2]) (e_draw (R := RSize) (ds := []) (C := C) (by walk_at "ev") ⟨rfl, ok, rfl, rfl⟩ hfZ)) ?_
    by_cases hne : bs = []
    · subst hne
      refine q_skip (b := false) (t_andF (t_is (p_test (p_gt (i := (([] : List PyData).length : Nat)) (j := 0) (e_borrowD (ds := []) (i := 1) rfl rfl fun I2 => p_len (ds := []) (p_cons (e_var rfl) a_nil)) e_int)) rfl)) rfl ?_
      obtain ⟨oe, v0, v1⟩ := vec_sm (C := (sizeM C).2) (m := 5) o1 (by decide)
      exact s_retZ (s_ret (e_tup (a_cons (e_draw (R := RVec) (ds := [.i 5]) (by walk_at "ev") ⟨_, rfl, o1, by decide, sz_le (m := 3) (by decide) (by decide), rfl, rfl⟩ hfZ) (a_cons (e_var rfl) a_nil)) (.cons (.cons .nil)) (show 2 ≤ 100000 by decide))) ⟨oe, ⟨(vecM (sizeM C).2 5).1.1, (vecM (sizeM C).2 5).1.2, _, _⟩, rfl, ⟨v0.up (by omega), v1.up (by omega), y0, y1⟩, sz⟩
    have hl0 : 0 < bs.length := List.length_pos_iff.mpr hne
    obtain ⟨o2, t1, t2⟩ := take_ok (C := (sizeM C).2) (m := 3) o1 (by decide)
    have lm : 0 < ((bs.length : Nat) : Int) := by omega
    have zl : ((bs.length : Nat) : Int).natAbs < 2 ^ 8500 := sz_le (m := 20) (by omega) (by decide)
    obtain ⟨o3, t3, t4⟩ := take_ok (C := (take (sizeM C).2 3).2) (m := ((bs.length : Nat) : Int)) o2 lm
    by_cases c : 0 < (take (sizeM C).2 3).1
    · obtain ⟨idx, hidx⟩ : ∃ idx : Nat, (take (take (sizeM C).2 3).2 ((bs.length : Nat) : Int)).1 = (idx : Nat) := ⟨_, (Int.toNat_of_nonneg t3).symm⟩
      have hi : idx < bs.length := by omega
      have hb := hbs bs[idx] (List.getElem_mem hi)
      have hg : (bs.map fun b => bxd b)[idx]? = some (bxd bs[idx]) := by rw [List.getElem?_map, List.getElem?_eq_getElem hi]; rfl
      obtain ⟨oe, b0, b1⟩ := besideN_ok o3 hb y0 y1
      refine s_stopR ret_fin (s_ifT (t_andT (t_is (p_test (p_gt (i := ((bs.map fun b => bxd b).length : Nat)) (j := 0) (e_borrowD (ds := (bs.map fun b => bxd b)) (i := 1) rfl rfl fun I2 => p_len (ds := (bs.map fun b => bxd b)) (p_cons (e_var rfl) a_nil)) e_int)) (decide_eq_true (by rw [List.length_map]; exact lm))) (t_is (t_test (e_gt (i := (take (sizeM C).2 3).1) (j := 0) (e_draw (R := RTake) (ds := [.i 3]) (by walk_at "ev") ⟨_, rfl, o1, by decide, z9 _ (by decide), rfl, rfl⟩ hfZ) e_int)) (decide_eq_true c))) ?_)
      exact s_retZ (s_ret (e_tup (a_cons (e_draw (R := RBesideG) (ds := [.d (bxd bs[idx]), .t [fr (sizeM C).1.1, fr (sizeM C).1.2]]) (a_cons (e_var rfl) (a_cons (e_ixM (q := q) (ds := bs.map fun b => bxd b) (j := idx) (e_varM rfl) (e_is (e_draw (R := RTake) (ds := [.i ((bs.length : Nat) : Int)]) (p_cons (e_var rfl) (p_cons (e_is (e_borrowD (ds := (bs.map fun b => bxd b)) (i := 1) rfl rfl fun I2 => p_len (ds := (bs.map fun b => bxd b)) (p_cons (e_var rfl) a_nil)) (by rw [List.length_map])) a_nil)) ⟨_, rfl, o2, lm, zl, rfl, rfl⟩ hfZ) (by rw [hidx])) (fun G H z => z.2.1) hg) (a_cons (e_var rfl) a_nil))) ⟨n, bs[idx], _, _, rfl, hn.2, o3, hb, y0, y1, rfl, rfl⟩ hfZ) (a_cons (e_var rfl) a_nil)) (.cons (.cons .nil)) (show 2 ≤ 100000 by decide))) ⟨oe, ⟨_, _, _, _⟩, rfl, ⟨b0, b1, y0, y1⟩, sz⟩
    · obtain ⟨oe, v0, v1⟩ := vec_sm (C := (take (sizeM C).2 3).2) (m := 5) o2 (by decide)
      refine s_seq (s_ifF (t_andT (t_is (p_test (p_gt (i := ((bs.map fun b => bxd b).length : Nat)) (j := 0) (e_borrowD (ds := (bs.map fun b => bxd b)) (i := 1) rfl rfl fun I2 => p_len (ds := (bs.map fun b => bxd b)) (p_cons (e_var rfl) a_nil)) e_int)) (decide_eq_true (by rw [List.length_map]; exact lm))) (t_is (t_test (e_gt (i := (take (sizeM C).2 3).1) (j := 0) (e_draw (R := RTake) (ds := [.i 3]) (by walk_at "ev") ⟨_, rfl, o1, by decide, z9 _ (by decide), rfl, rfl⟩ hfZ) e_int)) (decide_eq_false c))) s_next) ?_
      exact s_retZ (s_ret (e_tup (a_cons (e_draw (R := RVec) (ds := [.i 5]) (by walk_at "ev") ⟨_, rfl, o2, by decide, sz_le (m := 3) (by decide) (by decide), rfl, rfl⟩ hfZ) (a_cons (e_var rfl) a_nil)) (.cons (.cons .nil)) (show 2 ≤ 100000 by decide))) ⟨oe, ⟨_, _, _, _⟩, rfl, ⟨v0.up (by omega), v1.up (by omega), y0, y1⟩, sz⟩
theorem gives_least (Tp : Top K mg base) {A : Around} {st : List Env} {q : Str} (hlk : True) (cdv : Value) : CLO.Gives0 P w K mg base A st 6 ["top", "measure", "best", "waiting", "ends", "_", "name", "children", "worth"] "least_leaf" (defScope s_least_leaf) Tp.f_least_leaf cdv (defBody s_least_leaf) "measure" 1 q (spG K RLst) := by
  intro f c' s H Q v1 tl hr act hc h
  have G_nodes_from := fok_nodes_from (P := P) (w := w) (base := base) Tp
  have G_compare := fok_compare (P := P) (w := w) (base := base) Tp
  obtain ⟨G, d1, Rm, d, gh, dv1, hM, r, fin⟩ := h
  obtain ⟨o, μ, b0, rfl, ho, hl, mo, hRm, hB, rfl⟩ := r
  refine ⟨_, (pss_cons (ps_set (i := 2) sc_least_leaf.nd rfl (.inl rfl) pe_non)
        (pss_cons (ps_set (i := 3) sc_least_leaf.nd rfl (.inl rfl) (pe_call G_nodes_from (hr.mono (by decide)) (by rfl) Tp.g_nodes_from Tp.F_nodes_from.kp Tp.b_nodes_from .nil pass0 (pa_cons (pv 0) pa_nil)))
        (pss_cons (ps_while PassesOwn.never (pt_cmpR (op_neD hr.units) (pv 3) (pe_lst pa_nil) (nomark _)) (pss_cons (ps_asg (pe_bm0 PySem.F.plainAttrs_list PySem.F.slot_list_pop PySem.F.type_list_pop mt_pop (pv 3)) (pg_tup rfl (pgs_cons (pg_name (i := 4) sc_least_leaf.nd rfl (.inl rfl)) (pgs_cons (pg_name (i := 5) sc_least_leaf.nd rfl (.inl rfl)) (pgs_cons (pg_name (i := 6) sc_least_leaf.nd rfl (.inl rfl)) (pgs_cons (pg_name (i := 7) sc_least_leaf.nd rfl (.inl rfl)) pgs_nil))))))
        (pss_cons (ps_set (i := 8) sc_least_leaf.nd rfl (.inl rfl) (act _ _ _ _ (pa_cons (pv 4) pa_nil) (by rfl)))
        (pss_cons (ps_if (PW.pt (pw_or (pt_cmpR op_isN (pv 8) pe_non (nomark _)) (pw_or1 (PW.pt (pw_and (pt_cmpR op_notN (pv 2) pe_non (nomark _)) (pw_and1 (pt_cmpR op_gt (pe_call G_compare (hr.mono (by decide)) (by rfl) Tp.g_compare Tp.F_compare.kp Tp.b_compare .nil pass0 (pa_cons (pv 8) (pa_cons (pe_ix (r := rIxT K) ix_tup (pv 2) pe_int (fun _ _ => rfl)) pa_nil))) pe_int (nomark _)))))))) (pss_one ps_continue) pss_nil)
        (pss_cons (ps_expr (pe_bm PySem.F.plainAttrs_list PySem.F.slot_list_extend PySem.F.type_list_extend mt_extendT (pv 3) (pa_cons (pv 7) pa_nil)))
        (pss_one (ps_if (PW.pt (pw_and (pt_cmpR op_notN (pv 6) pe_non (nomark _)) (pw_and1 (PW.pt (pw_or (pt_cmpR op_isN (pv 2) pe_non (nomark _)) (pw_or (pt_cmpR op_lt (pv 6) (pe_ix (r := rIxT K) ix_tup (pv 2) pe_int (fun _ _ => rfl)) (nomark _)) (pw_or1 (pt_cmpR op_lt (pe_call G_compare (hr.mono (by decide)) (by rfl) Tp.g_compare Tp.F_compare.kp Tp.b_compare .nil pass0 (pa_cons (pv 8) (pa_cons (pe_ix (r := rIxT K) ix_tup (pv 2) pe_int (fun _ _ => rfl)) pa_nil))) pe_int (nomark _))))))))) (pss_one (ps_set (i := 2) sc_least_leaf.nd rfl (.inl rfl) (pe_tup (pa_cons (pv 6) (pa_cons (pv 8) pa_nil))))) pss_nil)))))))
        (pss_one (ps_ret (pv 2)))))), body_G ?_ gh dv1 fin⟩
  intro I hI
  walk_at "norm"
  refine q_asg (d := .d .none) e_non ?_
  refine s_asgN (en_callL (T := noT) (R := RFrom K) (ds := [.d (topD o)]) (xs := (nodesO o).map ndD) (p_cons (e_var rfl) a_nil) ⟨o, rfl, rfl, rfl⟩) fun d2 L2 ⟨qw, nw, e1, e2⟩ => ?_
  subst e1 e2
  walk_at "norm"
  have ls0 : lvL (nodesO o) = lvsO o := by
    cases o with
    | none => rfl
    | some t => exact lv_one t
  refine s_whileC (α := Option (Int × F) × List Nd) (fun s => WayL (lvsO o) μ s.2 s.1) (fun s => [some (.d (topD o)), some (.r f), some (.d (bestD s.1)), some (.r qw), none, none, none, none, none]) (fun s => (lJ K qw ((s.2).map ndD) I)) (fun s => szL s.2) (none, nodesO o) ⟨?_, by rw [ls0]; exact hl⟩ fun s w => ?_
  · cases o with
    | none => exact ⟨fun t ht => (by cases ht), fun z hz => (by cases hz), fun c z => (by cases z), fun n e w m _ => (by cases m)⟩
    | some u => exact Way.start (ho u rfl)
  obtain ⟨bb, st⟩ := s
  have w : WayL (lvsO o) μ st bb := w
  have sh := shaped_st w.w.ok w.le
  rcases List.eq_nil_or_concat st with rfl | ⟨st0, t, rfl⟩
  · refine .inr ⟨t_is (t_test (e_neR (ds := List.map ndD []) rfl sh)) ne_nil_ff, ?_⟩
    have eb : bb = b0 := Least.inj (fun _ => Iff.rfl) (fun n e x m k => (mo.nrm e x (by
      obtain ⟨u, hu⟩ : ∃ u, o = some u := by
        cases o with
        | none => cases m
        | some u => exact ⟨u, rfl⟩
      subst hu
      exact ((ho u rfl).inE _ m).1) k).nrm) w.w.done hB
    subst eb
    exact s_rtP (J := (lJ K qw (([]).map ndD) I)) (fun _ _ z => z.2) (s_ret (e_var rfl))
  rw [List.concat_eq_append] at w sh ⊢
  have ot := w.w.ok t (List.mem_append_right _ List.mem_cons_self)
  have l0 : (lvL st0).length + t.lvs.length ≤ 30 := by
    have := w.le
    rw [lv_app, lv_one, List.length_append] at this
    exact this
  have le0 : (lvL st0).length ≤ 30 := by omega
  have sz0 : szL st0 < szL (st0 ++ [t]) := by
    rw [sz_app]
    have := (sz_le t).1
    show szL st0 < szL st0 + (t.sz + 0)
    omega
  have st0l : st0.length ≤ 30 := by
    have : ∀ xs : List Nd, (∀ c ∈ xs, NdOk c) → xs.length ≤ (lvL xs).length := by
      intro xs
      induction xs with
      | nil => exact fun _ => Nat.le_refl _
      | cons c xs ih =>
        intro h
        have e : lvL (c :: xs) = c.lvs ++ lvL xs := rfl
        have p := (h c List.mem_cons_self).pos
        have := ih fun d hd => h d (List.mem_cons_of_mem _ hd)
        rw [e, List.length_append, List.length_cons]
        omega
    have := this st0 fun c hc => w.w.ok c (List.mem_append_left _ hc)
    omega
  refine .inl ⟨t_is (t_test (e_neR rfl sh)) (by rw [List.map_append]; exact ne_nil_tt _ _), ?_⟩
  have pop : ∀ nm ch, ndD t = .tuple [enD t.en, .int (t.ht : Nat), nm, ch] → S K (tAsg (tBM0 K "list" rPop (tVar 3)) (gTup K 4 (gCons (gName 4) (gCons (gName 5) (gCons (gName 6) (gCons (gName 7) gNil)))))) [some (.d (topD o)), some (.r f), some (.d (bestD bb)), some (.r qw), none, none, none, none, none] (lJ K qw ((st0 ++ [t]).map ndD) I) (.nx [some (.d (topD o)), some (.r f), some (.d (bestD bb)), some (.r qw), some (.d (enD t.en)), some (.i (t.ht : Nat)), some (.d nm), some (.d ch), none] (lJ K qw ((st0).map ndD) I)) := fun nm ch e => by
    have z := e_popL (K := K) (ρ := [some (.d (topD o)), some (.r f), some (.d (bestD bb)), some (.r qw), none, none, none, none, none]) (J := I) (q := qw) (ds := (st0 ++ [t]).map ndD) (x := ndD t) (i := 3) rfl (by rw [List.map_append]; exact List.getLast?_concat) nw
    rw [List.map_append, show List.map ndD [t] = [ndD t] from rfl, List.dropLast_concat] at z
    rw [e] at z
    rw [List.map_append, show List.map ndD [t] = [ndD t] from rfl, e]
    exact s_asgG z (g_tup rfl (g_cons g_name (g_cons g_name (g_cons g_name (g_cons g_name g_nil)))))
  have hI2 : ∀ G' H', (lJ K qw ((st0).map ndD) I).ok G' H' → Stp NoA G H G' H' := fun G' H' z => hI _ _ z.2
  have oen := ot.en
  cases hv : μ t.en with
  | none =>
    obtain ⟨nm, ch, et⟩ := nd_tup t
    refine ⟨(bb, st0), ⟨w.w.skip mo (.inl hv), le0⟩, sz0, [some (.d (topD o)), some (.r f), some (.d (bestD bb)), some (.r qw), some (.d (enD t.en)), some (.i (t.ht : Nat)), some (.d nm), some (.d ch), some (.d (worthD none))], ?_, .inr (s_seq (pop nm ch et) (s_seq (s_asg (d := .d (worthD none)) (e_ms (Rm := Rm) hI2 hc hM rfl (e_var rfl) (hRm _ _ ⟨t.en, oen, rfl, by rw [hv]⟩))) (s_stopC (s_ifT (t_orT (t_is (p_test (e_isN (x := .none) (e_var rfl) e_non)) rfl)) s_cont))))⟩
    exact ⟨.inr rfl, .inr rfl, .inr rfl, .inr rfl, .inl rfl, .inl rfl, .inl rfl, .inl rfl, .inl rfl, trivial⟩
  | some v =>
    have ov := mo.nrm _ _ oen hv
    have cle := fun (c : Int × F) (oc : PL.Ok 4000 c.2) => (cmp_gt0 ov.nrm oc.nrm)
    have clt := fun (c : Int × F) (oc : PL.Ok 4000 c.2) => (cmp_lt0 ov.nrm oc.nrm)
    have less9 : ∀ (b : Option (Int × F)) (a1 a2 a3 a4 a5 : Option Dat), Less [some (.d (topD o)), some (.r f), some (.d (bestD b)), some (.r qw), a1, a2, a3, a4, a5] [some (.d (topD o)), some (.r f), some (.d (bestD b)), some (.r qw), none, none, none, none, none] := fun _ _ _ _ _ _ => ⟨.inr rfl, .inr rfl, .inr rfl, .inr rfl, .inl rfl, .inl rfl, .inl rfl, .inl rfl, .inl rfl, trivial⟩
    have wr := e_ms (K := K) (J := (lJ K qw ((st0).map ndD) I)) (dm := .d (enD t.en)) (dr := .d (worthD (some v))) hI2 hc hM (i := 1) (te := tVar 4) (ρ := [some (.d (topD o)), some (.r f), some (.d (bestD bb)), some (.r qw), some (.d (enD t.en)), some (.i (t.ht : Nat)), some (.d (nmD t)), some (.d (chD t)), none]) rfl (e_var rfl) (hRm _ _ ⟨t.en, oen, rfl, by rw [hv]⟩)
    have pp := pop (nmD t) (chD t) (nd_eq t)
    clear pop
    cases hb : bb with
    | none =>
      subst hb
      cases ot with
      | @leaf n e he =>
        refine ⟨(some (n, v), st0), ⟨w.w.look hv ov (.inl rfl) (fun c z => by cases z), le0⟩, sz0, [some (.d (topD o)), some (.r f), some (.d (bestD (some (n, v)))), some (.r qw), some (.d (enD e)), some (.i ((1 : Nat) : Nat)), some (.d (.int n)), some (.d (.tuple [])), some (.d (worthD (some v)))], less9 _ _ _ _ _ _, .inl (s_post (J := lJ K qw (st0.map ndD ++ []) I) (fun G H z => by rw [List.append_nil] at z; exact z) (s_seq pp (s_seq (s_asg wr) (s_seq (s_ifF (t_orF (t_is (t_test (e_isN (x := fr v) (e_var rfl) e_non)) rfl) (t_andF (t_is (t_test (e_notN (x := .none) (e_var rfl) e_non)) rfl))) s_next) (s_seq (s_extT (es := []) (e_var rfl) rfl (by rw [List.length_map]; show st0.length + 0 ≤ 100000; omega) nw) (s_ifT (t_andT (t_is (t_test (e_notN (x := .int n) (e_var rfl) e_non)) rfl) (t_orT (t_is (t_test (e_isN (x := .none) (e_var rfl) e_non)) rfl))) (s_asg (d := .d (bestD (some (n, v)))) (p_tup2 (p_cons (e_var rfl) (p_cons (e_var rfl) a_nil))))))))))⟩
      | @node x y hx hy =>
        refine ⟨(none, st0 ++ [x, y]), ⟨w.w.open_, ?_⟩, ?_, [some (.d (topD o)), some (.r f), some (.d (bestD none)), some (.r qw), some (.d (enD (hullE x.en y.en))), some (.i ((1 + max x.ht y.ht : Nat) : Nat)), some (.d .none), some (.d (.tuple [ndD x, ndD y])), some (.d (worthD (some v)))], less9 _ _ _ _ _ _, .inl (s_post (J := lJ K qw (st0.map ndD ++ [ndD x, ndD y]) I) (fun G H z => by rw [List.map_append]; exact z) (s_seq pp (s_seq (s_asg wr) (s_seq (s_ifF (t_orF (t_is (t_test (e_isN (x := fr v) (e_var rfl) e_non)) rfl) (t_andF (t_is (t_test (e_notN (x := .none) (e_var rfl) e_non)) rfl))) s_next) (s_seq (s_extT (es := [ndD x, ndD y]) (e_var rfl) rfl (by rw [List.length_map]; show st0.length + 2 ≤ 100000; omega) nw) (s_ifF (t_andF (t_is (t_test (e_notN (x := .none) (e_var rfl) e_non)) rfl)) s_next))))))⟩
        · rw [lv_app, lv_two]
          have l0 : (lvL st0).length + (x.lvs ++ y.lvs).length ≤ 30 := l0
          rw [List.length_append]
          exact l0
        · rw [sz_app, sz_app]
          show szL st0 + (x.sz + (y.sz + 0)) < szL st0 + ((1 + x.sz + y.sz) + 0)
          omega
    | some c =>
      subst hb
      obtain ⟨oc, _⟩ := w.w.mem c rfl
      have cmp : ∀ (X0 : XK) (ρ : Rho) (L : Asn), ρ[2]? = some (some (.d (bestD (some c)))) → ρ[8]? = some (some (.d (worthD (some v)))) → PL.E K (tCall (spP K RCmp) [] X0 (tCons (tVar 8) (tCons (tOp (rIxT K) (tVar 2) (tC (.int 1))) tNil))) ρ L (.i (cmpM v c.2)) L := fun X0 ρ L h2 h8 => p_call (R := RCmp) (ds := [.d (fr v), .d (fr c.2)]) (p_cons (e_var h8) (p_cons (p_i1 (e_var h2)) a_nil)) ⟨v, c.2, rfl, ov.mono (by decide), oc.mono (by decide), rfl⟩
      by_cases gt : 0 < cmpM v c.2
      · refine ⟨(some c, st0), ⟨w.w.skip mo (.inr ⟨v, c, hv, rfl, (cle c oc).mp gt⟩), le0⟩, sz0, [some (.d (topD o)), some (.r f), some (.d (bestD (some c))), some (.r qw), some (.d (enD t.en)), some (.i (t.ht : Nat)), some (.d (nmD t)), some (.d (chD t)), some (.d (worthD (some v)))], less9 _ _ _ _ _ _, .inr (s_seq pp (s_seq (s_asg wr) (s_stopC (s_ifT (t_orF (t_is (t_test (e_isN (x := fr v) (e_var rfl) e_non)) rfl) (t_andT (t_is (t_test (e_notN (x := bestD (some c)) (e_var rfl) e_non)) rfl) (t_is (t_test (e_gt (i := cmpM v c.2) (j := 0) (cmp _ _ _ rfl rfl) e_int)) (decide_eq_true gt)))) s_cont))))⟩
      · have ngt : vl v ≤ vl c.2 := Rat.not_lt.mp fun z => gt ((cle c oc).mpr z)
        cases ot with
        | @leaf n e he =>
          by_cases u : n < c.1 ∨ cmpM v c.2 < 0
          · refine ⟨(some (n, v), st0), ⟨w.w.look hv ov (.inl rfl) (fun c' z => ?_), le0⟩, sz0, [some (.d (topD o)), some (.r f), some (.d (bestD (some (n, v)))), some (.r qw), some (.d (enD e)), some (.i ((1 : Nat) : Nat)), some (.d (.int n)), some (.d (.tuple [])), some (.d (worthD (some v)))], less9 _ _ _ _ _ _, .inl (s_post (J := lJ K qw (st0.map ndD ++ []) I) (fun G H z => by rw [List.append_nil] at z; exact z) (s_seq pp (s_seq (s_asg wr) (s_seq (s_ifF (t_orF (t_is (t_test (e_isN (x := fr v) (e_var rfl) e_non)) rfl) (t_andT (t_is (t_test (e_notN (x := bestD (some c)) (e_var rfl) e_non)) rfl) (t_is (t_test (e_gt (i := cmpM v c.2) (j := 0) (cmp _ _ _ rfl rfl) e_int)) (decide_eq_false gt)))) s_next) (s_seq (s_extT (es := []) (e_var rfl) rfl (by rw [List.length_map]; show st0.length + 0 ≤ 100000; omega) nw) (s_ifT (t_andT (t_is (t_test (e_notN (x := .int n) (e_var rfl) e_non)) rfl) (t_orF (t_is (t_test (e_isN (x := bestD (some c)) (e_var rfl) e_non)) rfl) (t_is (t_or (t_test (e_lt (i := n) (j := c.1) (e_var rfl) (p_i0 (e_var rfl)))) fun _ => t_test (e_lt (i := cmpM v c.2) (j := 0) (cmp _ _ _ rfl rfl) e_int)) (by rw [Bool.or_eq_true, decide_eq_true_iff, decide_eq_true_iff]; exact u)))) (s_asg (d := .d (bestD (some (n, v)))) (p_tup2 (p_cons (e_var rfl) (p_cons (e_var rfl) a_nil))))))))))⟩
            cases z
            refine ⟨_, rfl, ?_⟩
            unfold leB
            show vl v < vl c.2 ∨ (vl v = vl c.2 ∧ n ≤ c.1)
            by_cases l : vl v < vl c.2
            · exact .inl l
            · have e : vl v = vl c.2 := by grind
              rcases u with u | u
              · exact .inr ⟨e, by omega⟩
              · exact absurd ((clt c oc).mp u) l
          · have u1 : ¬ n < c.1 := fun z => u (.inl z)
            have u2 : ¬ cmpM v c.2 < 0 := fun z => u (.inr z)
            refine ⟨(some c, st0), ⟨w.w.look hv ov (.inr ⟨rfl, c, rfl, ?_⟩) (fun c' z => ⟨c', z, .refl _⟩), le0⟩, sz0, [some (.d (topD o)), some (.r f), some (.d (bestD (some c))), some (.r qw), some (.d (enD e)), some (.i ((1 : Nat) : Nat)), some (.d (.int n)), some (.d (.tuple [])), some (.d (worthD (some v)))], less9 _ _ _ _ _ _, .inl (s_post (J := lJ K qw (st0.map ndD ++ []) I) (fun G H z => by rw [List.append_nil] at z; exact z) (s_seq pp (s_seq (s_asg wr) (s_seq (s_ifF (t_orF (t_is (t_test (e_isN (x := fr v) (e_var rfl) e_non)) rfl) (t_andT (t_is (t_test (e_notN (x := bestD (some c)) (e_var rfl) e_non)) rfl) (t_is (t_test (e_gt (i := cmpM v c.2) (j := 0) (cmp _ _ _ rfl rfl) e_int)) (decide_eq_false gt)))) s_next) (s_seq (s_extT (es := []) (e_var rfl) rfl (by rw [List.length_map]; show st0.length + 0 ≤ 100000; omega) nw) (s_ifF (t_andT (t_is (t_test (e_notN (x := .int n) (e_var rfl) e_non)) rfl) (t_orF (t_is (t_test (e_isN (x := bestD (some c)) (e_var rfl) e_non)) rfl) (t_is (t_or (t_test (e_lt (i := n) (j := c.1) (e_var rfl) (p_i0 (e_var rfl)))) fun _ => t_test (e_lt (i := cmpM v c.2) (j := 0) (cmp _ _ _ rfl rfl) e_int)) (by rw [decide_eq_false u1, decide_eq_false u2]; rfl)))) s_next))))))⟩
            have nlt : vl c.2 ≤ vl v := Rat.not_lt.mp fun z => u2 ((clt c oc).mpr z)
            unfold leB
            exact .inr ⟨by grind, by show c.1 ≤ n; omega⟩
        | @node x y hx hy =>
          refine ⟨(some c, st0 ++ [x, y]), ⟨w.w.open_, ?_⟩, ?_, [some (.d (topD o)), some (.r f), some (.d (bestD (some c))), some (.r qw), some (.d (enD (hullE x.en y.en))), some (.i ((1 + max x.ht y.ht : Nat) : Nat)), some (.d .none), some (.d (.tuple [ndD x, ndD y])), some (.d (worthD (some v)))], less9 _ _ _ _ _ _, .inl (s_post (J := lJ K qw (st0.map ndD ++ [ndD x, ndD y]) I) (fun G H z => by rw [List.map_append]; exact z) (s_seq pp (s_seq (s_asg wr) (s_seq (s_ifF (t_orF (t_is (t_test (e_isN (x := fr v) (e_var rfl) e_non)) rfl) (t_andT (t_is (t_test (e_notN (x := bestD (some c)) (e_var rfl) e_non)) rfl) (t_is (t_test (e_gt (i := cmpM v c.2) (j := 0) (cmp _ _ _ rfl rfl) e_int)) (decide_eq_false gt)))) s_next) (s_seq (s_extT (es := [ndD x, ndD y]) (e_var rfl) rfl (by rw [List.length_map]; show st0.length + 2 ≤ 100000; omega) nw) (s_ifF (t_andF (t_is (t_test (e_notN (x := .none) (e_var rfl) e_non)) rfl)) s_next))))))⟩
          · rw [lv_app, lv_two]
            have l0 : (lvL st0).length + (x.lvs ++ y.lvs).length ≤ 30 := l0
            rw [List.length_append]
            exact l0
          · rw [sz_app, sz_app]
            show szL st0 + (x.sz + (y.sz + 0)) < szL st0 + ((1 + x.sz + y.sz) + 0)
            omega
theorem fok_Tree_hit (Tp : Top K mg base) : FnOk P w K mg base CX0 9 Tp.f_Tree_hit Tp.d_Tree_hit ["self", "origin", "path"] (spQ K Tp.tabs (RHit (IsT K Tp.C_Tree))) := by
  have G_time_within := fok_time_within (P := P) (w := w) (base := base) Tp
  obtain ⟨ocL, odL, kVL, docL, pmL, anL, cdvL, ctL, oslL, eqL, lkL, hcdL⟩ := Tp.F_least_leaf.ex
  have hbL := Tp.b_least_leaf
  rw [eqL] at lkL hbL
  refine Tp.F_Tree_hit.ok sc_Tree_hit (fun vs H Q E h => len_Q (fun _ _ _ ⟨_, _, _, _, _, e, _⟩ => by rw [e]; rfl) h) (fun A outer s H vs Q E hr h => ?_)
  refine ⟨_, (pss_one (ps_ret (CLO.pe_lamcall1 (ia := 3) (kl := 5) (k := 6) (a := "ends") (Ng := ["top", "measure", "best", "waiting", "ends", "_", "name", "children", "worth"]) (TT := spG K RLst) (m := "measure") (m0 := "top") (pe_fld (pv 0) rfl) (by rfl) Tp.g_least_leaf Tp.F_least_leaf.kp lkL hcdL hbL sc_least_leaf rfl (.inl rfl) (CLO.gives_of (gives_least (P := P) (w := w) Tp trivial cdvL)) ⟨Tp.tb_Tree_hit.code, Tp.tb_Tree_hit.bm, Tp.tb_Tree_hit.gP⟩ rfl (hr.mono (by decide)) (by decide) (CLO.lamS1_by (sc := defScope s_Tree_hit) (by decide +kernel)) rfl sc_Tree_hit.nd rfl (fun _ _ _ _ _ _ => rfl) (fun A outer s H f c' hr => (pe_call G_time_within (hr.mono (by decide)) (by rfl) Tp.g_time_within Tp.F_time_within.kp Tp.b_time_within .nil passL (pa_cons (pv 3) (pa_cons (pv 1) (pa_cons (pv 2) pa_nil)))))))), body_Q ?_ h⟩
  refine fun ds Z d r I hT hZ => ?_
  obtain ⟨q, o, w, tb, b, rfl, ⟨ab, top, ne, tk, rfl⟩, ry, hB, rfl⟩ := r
  walk_at "norm"
  refine p_ret (e_lam1 (T := Tp.tabs) (R := RLst) (Rm := RmM (rayT o w)) (d1 := .d (topD top)) List.mem_cons_self Tp.ln_Tree_hit (e_fldR (fs := [("_boxes", .r ab), ("_top", .d (topD top))]) Tp.cl_Tree Tp.na_Tree__top (e_var (i := 0) rfl) (fun G H z => ca_ins (hZ G H z) t_ins) rfl) (fun dm dr rm I' => ?_) ⟨top, (rayT o w), b, rfl, tk.ok, by have := tk.len; omega, ray_mono ry, fun _ _ z => z, hB.of_mem fun z => tk.pm.mem_iff, rfl⟩)
  obtain ⟨e, he, rfl, rfl⟩ := rm
  rw [← ray_worth]
  exact e_is (e_callX (R := RWithinT) (ds := [.d (enD e), .d (vcd o.1 o.2), .d (vcd w.1 w.2)]) (p_cons (e_var rfl) (p_cons (e_var rfl) (p_cons (e_var rfl) a_nil))) ⟨toB e, o.1, o.2, w.1, w.2, by rw [en_of he], ray_sz he ry, rfl⟩) (by rw [ray_eq he])
theorem fok_Tree_closest (Tp : Top K mg base) : FnOk P w K mg base CX0 9 Tp.f_Tree_closest Tp.d_Tree_closest ["self", "point"] (spQ K Tp.tabs (RClose (IsT K Tp.C_Tree))) := by
  have G_square_of_distance := fok_square_of_distance (P := P) (w := w) (base := base) Tp
  obtain ⟨ocL, odL, kVL, docL, pmL, anL, cdvL, ctL, oslL, eqL, lkL, hcdL⟩ := Tp.F_least_leaf.ex
  have hbL := Tp.b_least_leaf
  rw [eqL] at lkL hbL
  refine Tp.F_Tree_closest.ok sc_Tree_closest (fun vs H Q E h => len_Q (fun _ _ _ ⟨_, _, _, _, e, _⟩ => by rw [e]; rfl) h) (fun A outer s H vs Q E hr h => ?_)
  refine ⟨_, (pss_one (ps_ret (CLO.pe_lamcall1 (ia := 2) (kl := 4) (k := 6) (a := "ends") (Ng := ["top", "measure", "best", "waiting", "ends", "_", "name", "children", "worth"]) (TT := spG K RLst) (m := "measure") (m0 := "top") (pe_fld (pv 0) rfl) (by rfl) Tp.g_least_leaf Tp.F_least_leaf.kp lkL hcdL hbL sc_least_leaf rfl (.inl rfl) (CLO.gives_of (gives_least (P := P) (w := w) Tp trivial cdvL)) ⟨Tp.tb_Tree_closest.code, Tp.tb_Tree_closest.bm, Tp.tb_Tree_closest.gP⟩ rfl (hr.mono (by decide)) (by decide) (CLO.lamS1_by (sc := defScope s_Tree_closest) (by decide +kernel)) rfl sc_Tree_closest.nd rfl (fun _ _ _ _ _ _ => rfl) (fun A outer s H f c' hr => (pe_call G_square_of_distance (hr.mono (by decide)) (by rfl) Tp.g_square_of_distance Tp.F_square_of_distance.kp Tp.b_square_of_distance .nil pass0 (pa_cons (pv 2) (pa_cons (pv 1) pa_nil))))))), body_Q ?_ h⟩
  refine fun ds Z d r I hT hZ => ?_
  obtain ⟨q, x, tb, b, rfl, ⟨ab, top, ne, tk, rfl⟩, ox1, ox2, hB, rfl⟩ := r
  walk_at "norm"
  refine p_ret (e_lam1 (T := Tp.tabs) (R := RLst) (Rm := RmM (fun e => some (sqM e x))) (d1 := .d (topD top)) (List.mem_cons_of_mem _ List.mem_cons_self) Tp.ln_Tree_closest (e_fldR (fs := [("_boxes", .r ab), ("_top", .d (topD top))]) Tp.cl_Tree Tp.na_Tree__top (e_var (i := 0) rfl) (fun G H z => ca_ins (hZ G H z) t_ins) rfl) (fun dm dr rm I' => ?_) ⟨top, (fun e => some (sqM e x)), b, rfl, tk.ok, by have := tk.len; omega, sq_mono ox1 ox2, fun _ _ z => z, hB.of_mem fun z => tk.pm.mem_iff, rfl⟩)
  obtain ⟨e, he, rfl, rfl⟩ := rm
  exact p_call (R := RSq) (ds := [.d (enD e), .d (vcd x.1 x.2)]) (p_cons (e_var rfl) (p_cons (e_var rfl) a_nil)) ⟨e, x, rfl, he, ox1, ox2, rfl⟩
theorem fokr_with_leaf (Tp : Top K mg base) : ∀ n, FnOk P w K mg base CX0 (6 + n) Tp.f_with_leaf Tp.d_with_leaf ["top", "leaf"] (spP K (RWith n)) := by
  intro n
  induction n with
  | zero =>
    refine ⟨fun vs H Q E h => len_P (fun _ _ ⟨_, _, _, e, _⟩ => by rw [e]; rfl) h, fun A outer s H args us vs Q E hr e0 hb hv h => ?_⟩
    obtain ⟨_, _, _, _, _, r, _⟩ := h
    obtain ⟨_, _, _, _, _, _, lt, _⟩ := r
    exact absurd lt (Nat.not_lt_zero _)
  | succ n ih =>
    have G_balanced := fok_balanced (P := P) (w := w) (base := base) Tp
    have G_branch_of := fok_branch_of (P := P) (w := w) (base := base) Tp
    have G_compare := fok_compare (P := P) (w := w) (base := base) Tp
    have G_with_leaf := ih
    have G_growth := fok_growth (P := P) (w := w) (base := base) Tp
    refine Tp.F_with_leaf.ok sc_with_leaf (fun vs H Q E h => len_P (fun _ _ ⟨_, _, _, e, _⟩ => by rw [e]; rfl) h) (fun cdv A outer s H vs Q E hr h => ?_)
    refine ⟨_, (pss_cons (ps_if (pt_cmpR op_isN (pv 0) pe_non (nomark _)) (pss_one (ps_ret (pv 1))) pss_nil)
      (pss_cons (ps_if (pt_cmpR op_notN (pe_ix (r := rIxT K) ix_tup (pv 0) pe_int (fun _ _ => rfl)) pe_non (nomark _)) (pss_one (ps_ret (pe_call G_branch_of (hr.mono (Nat.le_trans (show 4 ≤ 6 by decide) (Nat.le_add_right 6 n))) (by rfl) Tp.g_branch_of Tp.F_branch_of.kp Tp.b_branch_of .nil pass0 (pa_cons (pv 0) (pa_cons (pv 1) pa_nil))))) pss_nil)
      (pss_cons (ps_asg (pe_ix (r := rIxT K) ix_tup (pv 0) pe_int (fun _ _ => rfl)) (pg_tup rfl (pgs_cons (pg_name (i := 2) sc_with_leaf.nd rfl (.inl rfl)) (pgs_cons (pg_name (i := 3) sc_with_leaf.nd rfl (.inl rfl)) pgs_nil))))
      (pss_cons (ps_if (pt_cmpR op_gt (pe_call G_compare (hr.mono (Nat.le_trans (show 1 ≤ 6 by decide) (Nat.le_add_right 6 n))) (by rfl) Tp.g_compare Tp.F_compare.kp Tp.b_compare .nil pass0 (pa_cons (pe_call G_growth (hr.mono (Nat.le_trans (show 4 ≤ 6 by decide) (Nat.le_add_right 6 n))) (by rfl) Tp.g_growth Tp.F_growth.kp Tp.b_growth .nil pass0 (pa_cons (pv 2) (pa_cons (pv 1) pa_nil))) (pa_cons (pe_call G_growth (hr.mono (Nat.le_trans (show 4 ≤ 6 by decide) (Nat.le_add_right 6 n))) (by rfl) Tp.g_growth Tp.F_growth.kp Tp.b_growth .nil pass0 (pa_cons (pv 3) (pa_cons (pv 1) pa_nil))) pa_nil))) pe_int (nomark _)) (pss_one (ps_par (i := 2) (j := 3) rfl sc_with_leaf.nd rfl rfl (by decide) rfl rfl (pa_cons (pv 3) (pa_cons (pv 2) pa_nil)) (by rfl))) pss_nil)
      (pss_one (ps_ret (pe_call G_balanced (hr.mono (Nat.le_trans (show 5 ≤ 6 by decide) (Nat.le_add_right 6 n))) (by rfl) Tp.g_balanced Tp.F_balanced.kp Tp.b_balanced .nil pass0 (pa_cons (pe_call G_with_leaf (hr.mono (Nat.le_refl _)) (by rfl) Tp.g_with_leaf Tp.F_with_leaf.kp Tp.b_with_leaf .nil pass0 (pa_cons (pv 2) (pa_cons (pv 1) pa_nil))) (pa_cons (pv 3) pa_nil))))))))), body_P ?_ h⟩
    refine fun ds d r I => ?_
    obtain ⟨o, m, e, rfl, ho, he, hk, rfl⟩ := r
    walk_at "norm"
    cases o with
    | none =>
      exact s_stop (q_ifT (p_test (e_isN (x := .none) (e_var rfl) e_non)) rfl (p_ret (e_var rfl)))
    | some t =>
      have h := ho t rfl
      have hk : t.ht < n + 1 := hk
      obtain ⟨nm, ch, et⟩ := nd_tup t
      refine q_skip (p_test (e_isN (x := .tuple [enD t.en, .int (t.ht : Nat), nm, ch]) (e_var (by show some (some (Dat.d (ndD t))) = _; rw [et])) e_non)) rfl ?_
      clear ho et nm ch
      cases h with
      | @leaf m2 f hf =>
        refine s_stop (q_ifT (p_test (e_notN (x := .int m2) (p_ixT (i := 2) (ds := [enD f, .int 1, .int m2, .tuple []]) (e_var rfl) e_int rfl) e_non)) rfl ?_)
        exact p_ret (p_call (R := RBr) (ds := [.d (ndD (.leaf m2 f)), .d (ndD (.leaf m e))]) (p_cons (e_var rfl) (p_cons (e_var rfl) a_nil)) ⟨_, _, rfl, .leaf hf, .leaf he, rfl⟩)
      | @node x y hx hy =>
        have hx1 : x.ht < n := by have hk : 1 + max x.ht y.ht < n + 1 := hk; omega
        have hy1 : y.ht < n := by have hk : 1 + max x.ht y.ht < n + 1 := hk; omega
        refine q_skip (p_test (e_notN (x := .none) (p_ixT (i := 2) (ds := [enD (hullE x.en y.en), .int ((1 + max x.ht y.ht : Nat) : Nat), .none, .tuple [ndD x, ndD y]]) (e_var rfl) e_int rfl) e_non)) rfl ?_
        refine s_seq (s_asgG (x := .tuple [ndD x, ndD y]) (p_ixT (i := 3) (ds := [enD (hullE x.en y.en), .int ((1 + max x.ht y.ht : Nat) : Nat), .none, .tuple [ndD x, ndD y]]) (e_var rfl) e_int rfl) (g_tup rfl (g_cons g_name (g_cons g_name g_nil)))) ?_
        walk_at "norm"
        have gx := grow_ok hx.en he
        have gy := grow_ok hy.en he
        have cmp : ∀ (X0 X1 X2 : XK) (ρ : Rho), ρ[1]? = some (some (.d (ndD (.leaf m e)))) → ρ[2]? = some (some (.d (ndD x))) → ρ[3]? = some (some (.d (ndD y))) → PL.E K (tCall (spP K RCmp) [] X0 (tCons (tCall (spP K RGrow) [] X1 (tCons (tVar 2) (tCons (tVar 1) tNil))) (tCons (tCall (spP K RGrow) [] X2 (tCons (tVar 3) (tCons (tVar 1) tNil))) tNil))) ρ I (.i (cmpM (growM x.en e) (growM y.en e))) I := fun _ _ _ ρ h1 h2 h3 =>
          p_call (R := RCmp) (ds := [.d (fr (growM x.en e)), .d (fr (growM y.en e))]) (p_cons (p_call (R := RGrow) (ds := [.d (ndD x), .d (ndD (.leaf m e))]) (p_cons (e_var h2) (p_cons (e_var h1) a_nil)) ⟨x, m, e, rfl, hx, he, rfl⟩) (p_cons (p_call (R := RGrow) (ds := [.d (ndD y), .d (ndD (.leaf m e))]) (p_cons (e_var h3) (p_cons (e_var h1) a_nil)) ⟨y, m, e, rfl, hy, he, rfl⟩) a_nil)) ⟨_, _, rfl, gx.mono (by decide), gy.mono (by decide), rfl⟩
        show S K _ _ _ (.rt (.d (ndD (if 0 < cmpM (growM x.en e) (growM y.en e) then balM (withM y m e) x else balM (withM x m e) y))) I)
        by_cases c : 0 < cmpM (growM x.en e) (growM y.en e)
        · rw [if_pos c]
          refine s_seq (q_ifT (p_test (p_gt (i := cmpM (growM x.en e) (growM y.en e)) (j := 0) (cmp _ _ _ _ rfl rfl rfl) e_int)) (decide_eq_true c) (p_par (p_cons (e_var rfl) (p_cons (e_var rfl) a_nil)))) ?_
          exact p_ret (p_call (R := RBal) (ds := [.d (ndD (withM y m e)), .d (ndD x)]) (p_cons (p_call (R := RWith n) (ds := [.d (ndD y), .d (ndD (.leaf m e))]) (p_cons (e_var rfl) (p_cons (e_var rfl) a_nil)) ⟨some y, m, e, rfl, fun t z => by cases z; exact hy, he, hy1, rfl⟩) (p_cons (e_var rfl) a_nil)) ⟨_, _, rfl, (with_ok hy he).1, hx, rfl⟩)
        · rw [if_neg c]
          refine q_skip (p_test (p_gt (i := cmpM (growM x.en e) (growM y.en e)) (j := 0) (cmp _ _ _ _ rfl rfl rfl) e_int)) (decide_eq_false c) ?_
          exact p_ret (p_call (R := RBal) (ds := [.d (ndD (withM x m e)), .d (ndD y)]) (p_cons (p_call (R := RWith n) (ds := [.d (ndD x), .d (ndD (.leaf m e))]) (p_cons (e_var rfl) (p_cons (e_var rfl) a_nil)) ⟨some x, m, e, rfl, fun t z => by cases z; exact hx, he, hx1, rfl⟩) (p_cons (e_var rfl) a_nil)) ⟨_, _, rfl, (with_ok hx he).1, hy, rfl⟩)
theorem fok_with_leaf (Tp : Top K mg base) : FnOk P w K mg base CX0 (6 + 14) Tp.f_with_leaf Tp.d_with_leaf ["top", "leaf"] (spP K (RWith 14)) := fokr_with_leaf Tp 14
theorem fokr_without_leaf (Tp : Top K mg base) : ∀ n, FnOk P w K mg base CX0 (6 + n) Tp.f_without_leaf Tp.d_without_leaf ["top", "leaf"] (spT K Tp.tabs (RWout n)) := by
  intro n
  induction n with
  | zero =>
    refine ⟨fun vs H Q E h => len_P (fun _ _ ⟨_, _, _, e, _⟩ => by rw [e]; rfl) h, fun A outer s H args us vs Q E hr e0 hb hv h => ?_⟩
    obtain ⟨_, _, _, _, _, r, _⟩ := h
    obtain ⟨_, _, _, _, _, _, lt, _⟩ := r
    exact absurd lt (Nat.not_lt_zero _)
  | succ n ih =>
    have G_without_leaf := ih
    have G_balanced := fok_balanced (P := P) (w := w) (base := base) Tp
    have G_ends_meet := fok_ends_meet (P := P) (w := w) (base := base) Tp
    refine Tp.F_without_leaf.ok sc_without_leaf (fun vs H Q E h => len_P (fun _ _ ⟨_, _, _, e, _⟩ => by rw [e]; rfl) h) (fun cdv A outer s H vs Q E hr h => ?_)
    refine ⟨_, (pss_cons (ps_if (pt_cmpR (op_eqD hr.units) (pv 0) (pv 1) (nomark _)) (pss_one (ps_ret pe_non)) pss_nil)
      (pss_cons (ps_if (PW.pt (pw_or (pt_cmpR op_notN (pe_ix (r := rIxT K) ix_tup (pv 0) pe_int (fun _ _ => rfl)) pe_non (nomark _)) (pw_or1 (pt_not (pt_val (pe_call G_ends_meet (hr.mono (Nat.le_trans (show 3 ≤ 6 by decide) (Nat.le_add_right 6 n))) (by rfl) Tp.g_ends_meet Tp.F_ends_meet.kp Tp.b_ends_meet .nil pass0 (pa_cons (pe_ix (r := rIxT K) ix_tup (pv 0) pe_int (fun _ _ => rfl)) (pa_cons (pe_ix (r := rIxT K) ix_tup (pv 1) pe_int (fun _ _ => rfl)) pa_nil)))))))) (pss_one (ps_ret (pv 0))) pss_nil)
      (pss_cons (ps_asg (pe_ix (r := rIxT K) ix_tup (pv 0) pe_int (fun _ _ => rfl)) (pg_tup rfl (pgs_cons (pg_name (i := 2) sc_without_leaf.nd rfl (.inl rfl)) (pgs_cons (pg_name (i := 3) sc_without_leaf.nd rfl (.inl rfl)) pgs_nil))))
      (pss_cons (ps_set (i := 4) sc_without_leaf.nd rfl (.inl rfl) (pe_call G_without_leaf (hr.mono (Nat.le_refl _)) (by rfl) Tp.g_without_leaf Tp.F_without_leaf.kp Tp.b_without_leaf .nil pass0 (pa_cons (pv 2) (pa_cons (pv 1) pa_nil))))
      (pss_cons (ps_if (pt_cmpR op_isN (pv 4) pe_non (nomark _)) (pss_one (ps_ret (pv 3))) pss_nil)
      (pss_cons (ps_set (i := 3) sc_without_leaf.nd rfl (.inl rfl) (pe_call G_without_leaf (hr.mono (Nat.le_refl _)) (by rfl) Tp.g_without_leaf Tp.F_without_leaf.kp Tp.b_without_leaf .nil pass0 (pa_cons (pv 3) (pa_cons (pv 1) pa_nil))))
      (pss_cons (ps_if (pt_cmpR op_isN (pv 3) pe_non (nomark _)) (pss_one (ps_ret (pv 4))) pss_nil)
      (pss_one (ps_ret (pe_call G_balanced (hr.mono (Nat.le_trans (show 5 ≤ 6 by decide) (Nat.le_add_right 6 n))) (by rfl) Tp.g_balanced Tp.F_balanced.kp Tp.b_balanced .nil pass0 (pa_cons (pv 4) (pa_cons (pv 3) pa_nil)))))))))))), body_T ?_ h⟩
    refine fun ds d r I hT => ?_
    obtain ⟨t, m, e, rfl, h, he, hk, hl, rfl⟩ := r
    walk_at "norm"
    have sl : SeqAt.shaped (ndD (.leaf m e)) = true := shaped_nd (.leaf he) (show 1 ≤ 30 by decide)
    have st := shaped_nd h hl
    cases h with
    | @leaf m2 f hf =>
      show S K _ _ _ (.rt (.d (topD (if PyData.eqv (ndD (.leaf m2 f)) (ndD (.leaf m e)) = true then none else some (.leaf m2 f)))) I)
      by_cases c : PyData.eqv (ndD (.leaf m2 f)) (ndD (.leaf m e)) = true
      · rw [if_pos c]
        exact s_stop (q_ifT (p_test (p_eqD (e_var rfl) (e_var rfl) st sl)) c (p_ret e_non))
      · rw [if_neg c]
        refine q_skip (p_test (p_eqD (e_var rfl) (e_var rfl) st sl)) (Bool.eq_false_iff.mpr c) ?_
        exact s_stop (q_ifT (t_orT (t_is (p_test (e_notN (x := .int m2) (p_ixT (i := 2) (ds := [enD f, .int 1, .int m2, .tuple []]) (e_var rfl) e_int rfl) e_non)) rfl)) rfl (p_ret (e_var rfl)))
    | @node x y hx hy =>
      have hx1 : x.ht < n := by have hk : 1 + max x.ht y.ht < n + 1 := hk; omega
      have hy1 : y.ht < n := by have hk : 1 + max x.ht y.ht < n + 1 := hk; omega
      have hl2 : x.lvs.length + y.lvs.length ≤ 30 := by
        have hl : (x.lvs ++ y.lvs).length ≤ 30 := hl
        rw [List.length_append] at hl
        exact hl
      have ok := NdOk.node hx hy
      refine q_skip (p_test (p_eqD (e_var rfl) (e_var rfl) st sl)) ev_node ?_
      show S K _ _ _ (.rt (.d (topD (if meetE (hullE x.en y.en) e = true then match wout x m e with
          | none => some y
          | some r => match wout y m e with
            | none => some r
            | some q => some (balM r q)
        else some (brM x y)))) I)
      by_cases c : meetE (hullE x.en y.en) e = true
      · rw [if_pos c]
        refine q_skip (t_or (t_is (p_test (e_notN (x := .none) (p_ixT (i := 2) (ds := [enD (hullE x.en y.en), .int ((1 + max x.ht y.ht : Nat) : Nat), .none, .tuple [ndD x, ndD y]]) (e_var rfl) e_int rfl) e_non)) rfl) fun _ => t_not (t_B (e_call (T := Tp.tabs) (R := RPairs le0) (ds := [.d (enD (hullE x.en y.en)), .d (enD e)]) (p_cons (p_i0 (e_var rfl)) (p_cons (p_i0 (e_var rfl)) a_nil)) (rp_en ok.en he)))) (by rw [c]; rfl) ?_
        refine s_seq (s_asgG (x := .tuple [ndD x, ndD y]) (p_ixT (i := 3) (ds := [enD (hullE x.en y.en), .int ((1 + max x.ht y.ht : Nat) : Nat), .none, .tuple [ndD x, ndD y]]) (e_var rfl) e_int rfl) (g_tup rfl (g_cons g_name (g_cons g_name g_nil)))) ?_
        walk_at "norm"
        refine q_asg (d := .d (topD (wout x m e))) (e_call (T := Tp.tabs) (R := RWout n) (ds := [.d (ndD x), .d (ndD (.leaf m e))]) (p_cons (e_var rfl) (p_cons (e_var rfl) a_nil)) ⟨x, m, e, rfl, hx, he, hx1, by omega, rfl⟩) ?_
        have wx := fun r z => (wout_okd hx he (r := r) (n := m) z)
        generalize wout x m e = wo at *
        cases wo with
        | none => exact s_stop (q_ifT (p_test (e_isN (x := .none) (e_var rfl) e_non)) rfl (p_ret (e_var rfl)))
        | some r =>
          obtain ⟨nr, cr, etr⟩ := nd_tup r
          refine q_skip (p_test (e_isN (x := .tuple [enD r.en, .int (r.ht : Nat), nr, cr]) (e_var (by show some (some (Dat.d (ndD r))) = _; rw [etr])) e_non)) rfl ?_
          refine q_asg (d := .d (topD (wout y m e))) (e_call (T := Tp.tabs) (R := RWout n) (ds := [.d (ndD y), .d (ndD (.leaf m e))]) (p_cons (e_var rfl) (p_cons (e_var rfl) a_nil)) ⟨y, m, e, rfl, hy, he, hy1, by omega, rfl⟩) ?_
          have wy := fun r z => (wout_okd hy he (r := r) (n := m) z)
          generalize wout y m e = wo2 at *
          cases wo2 with
          | none => exact s_stop (q_ifT (p_test (e_isN (x := .none) (e_var rfl) e_non)) rfl (p_ret (e_var rfl)))
          | some q =>
            obtain ⟨nq, cq, etq⟩ := nd_tup q
            refine q_skip (p_test (e_isN (x := .tuple [enD q.en, .int (q.ht : Nat), nq, cq]) (e_var (by show some (some (Dat.d (ndD q))) = _; rw [etq])) e_non)) rfl ?_
            exact p_ret (p_call (R := RBal) (ds := [.d (ndD r), .d (ndD q)]) (p_cons (e_var rfl) (p_cons (e_var rfl) a_nil)) ⟨r, q, rfl, wx r rfl, wy q rfl, rfl⟩)
      · rw [if_neg c]
        exact s_stop (q_ifT (t_or (t_is (p_test (e_notN (x := .none) (p_ixT (i := 2) (ds := [enD (hullE x.en y.en), .int ((1 + max x.ht y.ht : Nat) : Nat), .none, .tuple [ndD x, ndD y]]) (e_var rfl) e_int rfl) e_non)) rfl) fun _ => t_not (t_B (e_call (T := Tp.tabs) (R := RPairs le0) (ds := [.d (enD (hullE x.en y.en)), .d (enD e)]) (p_cons (p_i0 (e_var rfl)) (p_cons (p_i0 (e_var rfl)) a_nil)) (rp_en ok.en he)))) (by rw [Bool.eq_false_iff.mpr c]; rfl) (p_ret (e_var rfl)))
theorem fok_without_leaf (Tp : Top K mg base) : FnOk P w K mg base CX0 (6 + 14) Tp.f_without_leaf Tp.d_without_leaf ["top", "leaf"] (spT K Tp.tabs (RWout 14)) := fokr_without_leaf Tp 14
theorem fok_Tree_put (Tp : Top K mg base) : FnOk P w K mg base CX0 21 Tp.f_Tree_put Tp.d_Tree_put ["self", "name", "box"] (spM K noT (RPutO (IsT K Tp.C_Tree))) := by
  have G_with_leaf := fok_with_leaf (P := P) (w := w) (base := base) Tp
  have G_leaf_of := fok_leaf_of (P := P) (w := w) (base := base) Tp
  have G_ends_of := fok_ends_of (P := P) (w := w) (base := base) Tp
  refine Tp.F_Tree_put.ok sc_Tree_put (fun vs H Q E h => len_M (fun _ _ _ ⟨_, _, _, _, e, _⟩ => by rw [e]; rfl) h) (fun cdv A outer s H vs Q E hr h => ?_)
  refine ⟨_, (pss_cons (ps_dput (hu_of hr) (pe_fld (pv 0) rfl) (pv 1) (pv 2) rfl)
      (pss_one (ps_fld (pv 0) (pe_call G_with_leaf (hr.mono (by decide)) (by rfl) Tp.g_with_leaf Tp.F_with_leaf.kp Tp.b_with_leaf .nil pass0 (pa_cons (pe_fld (pv 0) rfl) (pa_cons (pe_call G_leaf_of (hr.mono (by decide)) (by rfl) Tp.g_leaf_of Tp.F_leaf_of.kp Tp.b_leaf_of .nil pass0 (pa_cons (pv 1) (pa_cons (pe_call G_ends_of (hr.mono (by decide)) (by rfl) Tp.g_ends_of Tp.F_ends_of.kp Tp.b_ends_of .nil pass0 (pa_cons (pv 2) pa_nil)) pa_nil))) pa_nil))) rfl))), body_V ?_ h⟩
  refine fun ds Z Po r J hT ap => ?_
  obtain ⟨q, n, b, tb, rfl, ⟨ab, top, ne, tk, rfl⟩, hn, hb, hl, rfl⟩ := r
  walk_at "norm"
  obtain ⟨fq, fab⟩ := t_foot ap
  refine s_seq (s_putC (cs' := tCs K Tp.C_Tree q ab (tb ++ [(n, b)]) top) (q1 := J) (x := bxd b) (e_var rfl) (e_fldR (fs := [("_boxes", .r ab), ("_top", .d (topD top))]) Tp.cl_Tree Tp.na_Tree__boxes (e_var (i := 0) rfl) (fun G H z => ca_ins z.1 t_ins) rfl) (e_var rfl) t_dic (by unfold bxsD; rw [List.length_map]; omega) fab fun c hc => ?_) ?_
  · rcases List.mem_cons.mp hc with rfl | hc
    · exact .inr ⟨ne, t_ins⟩
    · rw [List.mem_singleton.mp hc, put_bx hn]
      exact .inl rfl
  · obtain ⟨k1, k2, k3, k4⟩ := hb.ok
    refine s_endM (Y := cA (tCs K Tp.C_Tree q ab (tb ++ [(n, b)]) (some (withO top n (ofB b))))) (s_fldC (d := .d (ndD (withO top n (ofB b)))) Tp.cl_Tree Tp.na_Tree__top (p_call (R := RWith 14) (ds := [.d (topD top), .d (ndD (.leaf n (ofB b)))]) (p_cons (e_fldR (fs := [("_boxes", .r ab), ("_top", .d (topD top))]) Tp.cl_Tree Tp.na_Tree__top (e_var (i := 0) rfl) (fun G H z => ca_ins z.1 t_ins) rfl) (p_cons (p_call (R := RLeaf) (ds := [.i n, .d (enD (ofB b))]) (p_cons (e_var rfl) (p_cons (p_call (R := REnds) (ds := [.d (bxd b)]) (p_cons (e_var rfl) a_nil) ⟨b, rfl, k1, k2, k3, k4, rfl⟩) a_nil)) ⟨n, ofB b, rfl, rfl⟩) a_nil)) ⟨top, n, ofB b, rfl, tk.ok, hb.en, tk.ht, rfl⟩) rfl t_ins (show 2 < 1000 by decide) fq fun c hc => ?_) ⟨rfl, ab, _, ne, tk.put hn hb hl, rfl⟩ (t_apart fq fab)
    rcases List.mem_cons.mp hc with rfl | hc
    · exact .inl rfl
    · rw [List.mem_singleton.mp hc]
      exact .inr ⟨ne.symm, t_dic⟩
theorem fok_Tree_take (Tp : Top K mg base) : FnOk P w K mg base CX0 21 Tp.f_Tree_take Tp.d_Tree_take ["self", "name"] (spM K Tp.tabs (RTake (IsT K Tp.C_Tree))) := by
  have G_without_leaf := fok_without_leaf (P := P) (w := w) (base := base) Tp
  have G_leaf_of := fok_leaf_of (P := P) (w := w) (base := base) Tp
  have G_ends_of := fok_ends_of (P := P) (w := w) (base := base) Tp
  refine Tp.F_Tree_take.ok sc_Tree_take (fun vs H Q E h => len_M (fun _ _ _ ⟨_, _, _, e, _⟩ => by rw [e]; rfl) h) (fun cdv A outer s H vs Q E hr h => ?_)
  refine ⟨_, (pss_cons (ps_fld (pv 0) (pe_call G_without_leaf (hr.mono (by decide)) (by rfl) Tp.g_without_leaf Tp.F_without_leaf.kp Tp.b_without_leaf .nil pass0 (pa_cons (pe_fld (pv 0) rfl) (pa_cons (pe_call G_leaf_of (hr.mono (by decide)) (by rfl) Tp.g_leaf_of Tp.F_leaf_of.kp Tp.b_leaf_of .nil pass0 (pa_cons (pv 1) (pa_cons (pe_call G_ends_of (hr.mono (by decide)) (by rfl) Tp.g_ends_of Tp.F_ends_of.kp Tp.b_ends_of .nil pass0 (pa_cons (pe_dget (hu_of hr) (pe_fld (pv 0) rfl) (pv 1) (fun _ _ => rfl)) pa_nil)) pa_nil))) pa_nil))) rfl)
      (pss_one (ps_ddel (pe_fld (pv 0) rfl) (pv 1)))), body_V ?_ h⟩
  refine fun ds Z Po r J hT ap => ?_
  obtain ⟨q, n, tb, rfl, ⟨ab, top, ne, tk, rfl⟩, hn, rfl⟩ := r
  walk_at "norm"
  obtain ⟨fq, fab⟩ := t_foot ap
  obtain ⟨b, hb⟩ := has_bx hn
  have gb := tk.t0.bx _ hb
  have hv := val_bx tk.t0.nd hb
  obtain ⟨k1, k2, k3, k4⟩ := gb.ok
  obtain ⟨t, rfl⟩ : ∃ t, top = some t := by
    cases top with
    | none =>
      have := tk.pm.symm.eq_nil
      rw [List.map_eq_nil_iff] at this
      rw [this] at hb
      cases hb
    | some t => exact ⟨t, rfl⟩
  have lt : t.ht < 14 := tk.ht
  have ll : t.lvs.length ≤ 13 := tk.len
  refine s_seq (s_fldC (cs' := tCs K Tp.C_Tree q ab tb (wout t n (ofB b))) (d := .d (topD (wout t n (ofB b)))) Tp.cl_Tree Tp.na_Tree__top (e_call (T := Tp.tabs) (R := RWout 14) (ds := [.d (ndD t), .d (ndD (.leaf n (ofB b)))]) (p_cons (e_fldR (fs := [("_boxes", .r ab), ("_top", .d (topD (some t)))]) Tp.cl_Tree Tp.na_Tree__top (e_var (i := 0) rfl) (fun G H z => ca_ins z.1 t_ins) rfl) (p_cons (p_call (R := RLeaf) (ds := [.i n, .d (enD (ofB b))]) (p_cons (e_var rfl) (p_cons (p_call (R := REnds) (ds := [.d (bxd b)]) (p_cons (e_kGetM (e_fldR (fs := [("_boxes", .r ab), ("_top", .d (topD (some t)))]) Tp.cl_Tree Tp.na_Tree__boxes (e_var (i := 0) rfl) (fun G H z => ca_ins z.1 t_ins) rfl) (e_var rfl) (fun G H z => ca_k z.1 t_dic) hv) a_nil) ⟨b, rfl, k1, k2, k3, k4, rfl⟩) a_nil)) ⟨n, ofB b, rfl, rfl⟩) a_nil)) ⟨t, n, ofB b, rfl, tk.ok t rfl, gb.en, lt, by omega, rfl⟩) rfl t_ins (show 2 < 1000 by decide) fq fun c hc => ?_) ?_
  · rcases List.mem_cons.mp hc with rfl | hc
    · exact .inl rfl
    · rw [List.mem_singleton.mp hc]
      exact .inr ⟨ne.symm, t_dic⟩
  · have tk2 := tk.take hb
    generalize wout t n (ofB b) = top at *
    refine s_endM (Y := cA (tCs K Tp.C_Tree q ab (delT tb n) top)) (s_delC (e_fldR (fs := [("_boxes", .r ab), ("_top", .d (topD top))]) Tp.cl_Tree Tp.na_Tree__boxes (e_var (i := 0) rfl) (fun G H z => ca_ins z.1 t_ins) rfl) (e_var rfl) t_dic (by rw [hv]; rfl) fab fun c hc => ?_) ⟨rfl, ab, _, ne, tk2, rfl⟩ (t_apart fq fab)
    rcases List.mem_cons.mp hc with rfl | hc
    · exact .inr ⟨ne, t_ins⟩
    · rw [List.mem_singleton.mp hc, drop_bx]
      exact .inl rfl
theorem fok_Tree_add (Tp : Top K mg base) : FnOk P w K mg base (L2.CX P w) 22 Tp.f_Tree_add Tp.d_Tree_add ["self", "name", "box"] (spM K Tp.tabs (RAdd (IsT K Tp.C_Tree))) := by
  have G_check_unused := fok_check_unused (P := P) (w := w) (base := base) Tp
  have G_check_box := fok_check_box (P := P) (w := w) (base := base) Tp
  have G_Tree_put := fok_Tree_put (P := P) (w := w) (base := base) Tp
  refine Tp.F_Tree_add.okX sc_Tree_add (fun vs H Q E h => len_M (fun _ _ _ ⟨_, _, _, _, e, _⟩ => by rw [e]; rfl) h) (fun cdv A outer s H vs Q E hr h => ?_)
  refine ⟨_, (pss_cons (ps_expr (pe_call G_check_unused (hr.mono (by decide)) (by rfl) Tp.g_check_unused Tp.F_check_unused.kp Tp.b_check_unused .nil (passes_call (takes_of rfl rfl rfl rfl) (fun _ _ _ _ z => z)) (pa_cons (pe_fld (pv 0) rfl) (pa_cons (pv 1) pa_nil))))
      (pss_cons (ps_expr (pe_call G_check_box (hr.mono (by decide)) (by rfl) Tp.g_check_box Tp.F_check_box.kp Tp.b_check_box .nil (passes_call (takes_of rfl rfl rfl rfl) (fun _ _ _ _ z => z)) (pa_cons (pv 2) pa_nil)))
      (pss_one (ps_expr (pe_meth (pv 0) Tp.cl_Tree Tp.me_Tree_put G_Tree_put (hr.mono (by decide)) Tp.b_Tree_put .nil pass0 (pa_cons (pv 1) (pa_cons (pv 2) pa_nil))))))), body_V ?_ h⟩
  refine fun ds Z Po r J hT ap => ?_
  obtain ⟨q, n, b, tb, rfl, hIs, h0, hn, hb, hl, rfl⟩ := r
  have hIs0 := hIs
  obtain ⟨ab, top, ne, tk, rfl⟩ := hIs
  have nd0 := tk.t0.nd
  have le0 := tk.t0.le
  walk_at "norm"
  refine s_seq (s_drop (e_callQ (R := RUnused K) (Z := kA K ab (bxsD tb)) (ds := [.r ab, .i n]) (d := .d .none) (p_cons (e_fldR (fs := [("_boxes", .r ab), ("_top", .d (topD top))]) Tp.cl_Tree Tp.na_Tree__boxes (e_var (i := 0) rfl) (fun G H z => ca_ins z.1 t_ins) rfl) (p_cons (e_var rfl) a_nil)) (fun G H z => ca_k z.1 t_dic) ⟨ab, bxsD tb, n, rfl, rfl, h0, val_no hn, rfl⟩)) ?_
  refine s_seq (s_drop (e_callX (R := RCheck Tp.c_BoxError) (ds := [.d (bxd b)]) (d := .d .none) (p_cons (e_var rfl) a_nil) ⟨b, rfl, .inl ⟨hb.sz, rfl⟩⟩)) ?_
  exact s_dropN (en_methM (T := noT) (R := RPutO (IsT K Tp.C_Tree)) (ds := [.i n, .d (bxd b)]) (q := q) (Z := cA (tCs K Tp.C_Tree q ab tb top)) (e_var rfl) (p_cons (e_var rfl) (p_cons (e_var rfl) a_nil)) (fun G H z => ca_look z t_ins rfl) ⟨q, n, b, tb, rfl, hIs0, hn, hb, hl, rfl⟩  ap (P := fun d L => ∃ Y, (d = .d .none ∧ (IsT K Tp.C_Tree) q (tb ++ [(n, b)]) Y) ∧ Apart Y J ∧ L = Y.and J) fun d Y po a2 => ⟨Y, po, a2, rfl⟩) fun d L ⟨Y, po, a2, e⟩ => ⟨Y, ⟨rfl, po.2⟩, a2, fun _ _ z => e ▸ z⟩
theorem fok_Tree_move (Tp : Top K mg base) : FnOk P w K mg base (L2.CX P w) 22 Tp.f_Tree_move Tp.d_Tree_move ["self", "name", "box"] (spM K Tp.tabs (RMove (IsT K Tp.C_Tree))) := by
  have G_check_used := fok_check_used (P := P) (w := w) (base := base) Tp
  have G_check_box := fok_check_box (P := P) (w := w) (base := base) Tp
  have G_Tree_take := fok_Tree_take (P := P) (w := w) (base := base) Tp
  have G_Tree_put := fok_Tree_put (P := P) (w := w) (base := base) Tp
  refine Tp.F_Tree_move.okX sc_Tree_move (fun vs H Q E h => len_M (fun _ _ _ ⟨_, _, _, _, e, _⟩ => by rw [e]; rfl) h) (fun cdv A outer s H vs Q E hr h => ?_)
  refine ⟨_, (pss_cons (ps_expr (pe_call G_check_used (hr.mono (by decide)) (by rfl) Tp.g_check_used Tp.F_check_used.kp Tp.b_check_used .nil (passes_call (takes_of rfl rfl rfl rfl) (fun _ _ _ _ z => z)) (pa_cons (pe_fld (pv 0) rfl) (pa_cons (pv 1) pa_nil))))
      (pss_cons (ps_expr (pe_call G_check_box (hr.mono (by decide)) (by rfl) Tp.g_check_box Tp.F_check_box.kp Tp.b_check_box .nil (passes_call (takes_of rfl rfl rfl rfl) (fun _ _ _ _ z => z)) (pa_cons (pv 2) pa_nil)))
      (pss_cons (ps_expr (pe_meth (pv 0) Tp.cl_Tree Tp.me_Tree_take G_Tree_take (hr.mono (by decide)) Tp.b_Tree_take .nil pass0 (pa_cons (pv 1) pa_nil)))
      (pss_one (ps_expr (pe_meth (pv 0) Tp.cl_Tree Tp.me_Tree_put G_Tree_put (hr.mono (by decide)) Tp.b_Tree_put .nil pass0 (pa_cons (pv 1) (pa_cons (pv 2) pa_nil)))))))), body_V ?_ h⟩
  refine fun ds Z Po r J hT ap => ?_
  obtain ⟨q, n, b, tb, rfl, hIs, hn, hb, rfl⟩ := r
  have hIs0 := hIs
  obtain ⟨ab, top, ne, tk, rfl⟩ := hIs
  have nd0 := tk.t0.nd
  have le0 := tk.t0.le
  walk_at "norm"
  obtain ⟨b0, hb0⟩ := has_bx hn
  refine s_seq (s_drop (e_callQ (R := RUsed K) (Z := kA K ab (bxsD tb)) (ds := [.r ab, .i n]) (d := .d .none) (p_cons (e_fldR (fs := [("_boxes", .r ab), ("_top", .d (topD top))]) Tp.cl_Tree Tp.na_Tree__boxes (e_var (i := 0) rfl) (fun G H z => ca_ins z.1 t_ins) rfl) (p_cons (e_var rfl) a_nil)) (fun G H z => ca_k z.1 t_dic) ⟨ab, bxsD tb, n, _, rfl, rfl, val_bx nd0 hb0, rfl⟩)) ?_
  refine s_seq (s_drop (e_callX (R := RCheck Tp.c_BoxError) (ds := [.d (bxd b)]) (d := .d .none) (p_cons (e_var rfl) a_nil) ⟨b, rfl, .inl ⟨hb.sz, rfl⟩⟩)) ?_
  have dl := del_len hn
  refine s_dropNS (en_methM (T := Tp.tabs) (R := RTake (IsT K Tp.C_Tree)) (ds := [.i n]) (q := q) (Z := cA (tCs K Tp.C_Tree q ab tb top)) (e_var rfl) (p_cons (e_var rfl) a_nil) (fun G H z => ca_look z t_ins rfl) ⟨q, n, tb, rfl, hIs0, hn, rfl⟩  ap (P := fun d L => ∃ Y, (IsT K Tp.C_Tree) q (delT tb n) Y ∧ Apart Y J ∧ L = Y.and J) fun d Y po a2 => ⟨Y, po.2, a2, rfl⟩) fun d L ⟨Y, po, a2, e⟩ => ?_
  subst e
  have zlook : ∀ (m : Str) G H, Y.ok G H → m ∈ [("_put" : Str)] → ∃ dx us, H q = some (.ins Tp.C_Tree dx us) ∧ us.lookup m = none := by
    intro m G H z hm
    have hIs := po
    obtain ⟨ab, top, ne, tk, rfl⟩ := hIs
    rw [List.mem_singleton.mp hm]
    exact ca_look z t_ins rfl
  exact s_dropN (en_methM (T := noT) (R := RPutO (IsT K Tp.C_Tree)) (ds := [.i n, .d (bxd b)]) (q := q) (Z := Y) (e_var rfl) (p_cons (e_var rfl) (p_cons (e_var rfl) a_nil)) (fun G H z => zlook _ _ _ z List.mem_cons_self) ⟨q, n, b, delT tb n, rfl, po, del_no, hb, by omega, rfl⟩  a2 (P := fun d L => ∃ Y, (d = .d .none ∧ (IsT K Tp.C_Tree) q (delT tb n ++ [(n, b)]) Y) ∧ Apart Y J ∧ L = Y.and J) fun d Y po a2 => ⟨Y, po, a2, rfl⟩) fun d L ⟨Y, po, a2, e⟩ => ⟨Y, ⟨rfl, po.2⟩, a2, fun _ _ z => e ▸ z⟩
theorem fok_Tree_remove (Tp : Top K mg base) : FnOk P w K mg base (L2.CX P w) 22 Tp.f_Tree_remove Tp.d_Tree_remove ["self", "name"] (spM K Tp.tabs (RTake (IsT K Tp.C_Tree))) := by
  have G_check_used := fok_check_used (P := P) (w := w) (base := base) Tp
  have G_Tree_take := fok_Tree_take (P := P) (w := w) (base := base) Tp
  refine Tp.F_Tree_remove.okX sc_Tree_remove (fun vs H Q E h => len_M (fun _ _ _ ⟨_, _, _, e, _⟩ => by rw [e]; rfl) h) (fun cdv A outer s H vs Q E hr h => ?_)
  refine ⟨_, (pss_cons (ps_expr (pe_call G_check_used (hr.mono (by decide)) (by rfl) Tp.g_check_used Tp.F_check_used.kp Tp.b_check_used .nil (passes_call (takes_of rfl rfl rfl rfl) (fun _ _ _ _ z => z)) (pa_cons (pe_fld (pv 0) rfl) (pa_cons (pv 1) pa_nil))))
      (pss_one (ps_expr (pe_meth (pv 0) Tp.cl_Tree Tp.me_Tree_take G_Tree_take (hr.mono (by decide)) Tp.b_Tree_take .nil pass0 (pa_cons (pv 1) pa_nil))))), body_V ?_ h⟩
  refine fun ds Z Po r J hT ap => ?_
  obtain ⟨q, n, tb, rfl, hIs, hn, rfl⟩ := r
  have hIs0 := hIs
  obtain ⟨ab, top, ne, tk, rfl⟩ := hIs
  have nd0 := tk.t0.nd
  have le0 := tk.t0.le
  walk_at "norm"
  obtain ⟨b0, hb0⟩ := has_bx hn
  refine s_seq (s_drop (e_callQ (R := RUsed K) (Z := kA K ab (bxsD tb)) (ds := [.r ab, .i n]) (d := .d .none) (p_cons (e_fldR (fs := [("_boxes", .r ab), ("_top", .d (topD top))]) Tp.cl_Tree Tp.na_Tree__boxes (e_var (i := 0) rfl) (fun G H z => ca_ins z.1 t_ins) rfl) (p_cons (e_var rfl) a_nil)) (fun G H z => ca_k z.1 t_dic) ⟨ab, bxsD tb, n, _, rfl, rfl, val_bx nd0 hb0, rfl⟩)) ?_
  exact s_dropN (en_methM (T := Tp.tabs) (R := RTake (IsT K Tp.C_Tree)) (ds := [.i n]) (q := q) (Z := cA (tCs K Tp.C_Tree q ab tb top)) (e_var rfl) (p_cons (e_var rfl) a_nil) (fun G H z => ca_look z t_ins rfl) ⟨q, n, tb, rfl, hIs0, hn, rfl⟩  ap (P := fun d L => ∃ Y, (d = .d .none ∧ (IsT K Tp.C_Tree) q (delT tb n) Y) ∧ Apart Y J ∧ L = Y.and J) fun d Y po a2 => ⟨Y, po, a2, rfl⟩) fun d L ⟨Y, po, a2, e⟩ => ⟨Y, ⟨rfl, po.2⟩, a2, fun _ _ z => e ▸ z⟩
theorem fok_law (Tp : Top K mg base) : FnOk P w K mg base CX0 23 Tp.f_law Tp.d_law ["script"] (spLawT K Tp.tabs) := by
  have G_law_begin := fok_law_begin (P := P) (w := w) (base := base) Tp
  have G_law_take := fok_law_take (P := P) (w := w) (base := base) Tp
  have G_law_box := fok_law_box (P := P) (w := w) (base := base) Tp
  have G_Broad_init := fok_Broad_init (P := P) (w := w) (base := base) Tp
  have G_Tree_init := fok_Tree_init (P := P) (w := w) (base := base) Tp
  have G_law_vector := fok_law_vector (P := P) (w := w) (base := base) Tp
  have G_Broad_near := fok_Broad_near (P := P) (w := w) (base := base) Tp
  have G_Tree_near := fok_Tree_near (P := P) (w := w) (base := base) Tp
  have G_Broad_add := fok_Broad_add (P := P) (w := w) (base := base) Tp
  have G_Tree_add := fok_Tree_add (P := P) (w := w) (base := base) Tp
  have G_Broad_move := fok_Broad_move (P := P) (w := w) (base := base) Tp
  have G_Tree_move := fok_Tree_move (P := P) (w := w) (base := base) Tp
  have G_Broad_remove := fok_Broad_remove (P := P) (w := w) (base := base) Tp
  have G_Tree_remove := fok_Tree_remove (P := P) (w := w) (base := base) Tp
  have G_Tree_closest := fok_Tree_closest (P := P) (w := w) (base := base) Tp
  have G_Broad_pairs := fok_Broad_pairs (P := P) (w := w) (base := base) Tp
  have G_Tree_hit := fok_Tree_hit (P := P) (w := w) (base := base) Tp
  have G_Broad_names := fok_Broad_names (P := P) (w := w) (base := base) Tp
  have G_Tree_names := fok_Tree_names (P := P) (w := w) (base := base) Tp
  have G_Broad_box_of := fok_Broad_box_of (P := P) (w := w) (base := base) Tp
  have G_Tree_box_of := fok_Tree_box_of (P := P) (w := w) (base := base) Tp
  refine Tp.F_law.ok sc_law (fun vs H Q E h => len_LT h) (fun cdv A outer s H vs Q E hr h => ?_)
  refine ⟨_, (pss_cons (ps_set (i := 1) sc_law.nd rfl (.inl rfl) (pe_call G_law_begin (hr.mono (by decide)) (by rfl) Tp.g_law_begin Tp.F_law_begin.kp Tp.b_law_begin .nil pass0 (pa_cons (pv 0) pa_nil)))
      (pss_cons (ps_set (i := 2) sc_law.nd rfl (.inr rfl) pe_dnewK)
      (pss_cons (ps_for PassesOwn.never rfl (pi_range1 (by rfl) Tp.n_range (pa_cons (pe_call G_law_take (hr.mono (by decide)) (by rfl) Tp.g_law_take Tp.F_law_take.kp Tp.b_law_take .nil pass0 (pa_cons (pv 1) (pa_cons pe_int pa_nil))) pa_nil)) (pg_name (i := 3) sc_law.nd rfl (.inl rfl)) (pss_one (ps_dput (hu_of hr) (pv 2) (pe_call G_law_take (hr.mono (by decide)) (by rfl) Tp.g_law_take Tp.F_law_take.kp Tp.b_law_take .nil pass0 (pa_cons (pv 1) (pa_cons pe_int pa_nil))) (pe_call G_law_box (hr.mono (by decide)) (by rfl) Tp.g_law_box Tp.F_law_box.kp Tp.b_law_box .nil pass0 (pa_cons (pv 1) (pa_cons (pe_lc (own := [("name", 4)]) (g := gName 4) (tt := tYes) rfl sc_law.nd (pi_list (pe_callB (call_sortedDI rfl) (by rfl) Tp.n_sorted (by decide +kernel) (pa_cons (pv 2) pa_nil))) (blkOk_by (N := ["script", "d", "table", "k", "name", "names", "one", "other", "thing", "detour", "turn", "box", "origin", "path", "near"]) (sc := defScope s_law) (by decide +kernel)) (fun _ _ _ _ _ => pg_name (i := 4) sc_law.nd rfl (Or.inl rfl)) (fun _ _ _ _ _ => pts_nil) (fun _ _ _ _ _ => (pe_dget (hu_of hr) (pv 2) (pv 4) (fun _ _ => rfl)))) pa_nil))) rfl)))
      (pss_cons (ps_set (i := 5) sc_law.nd rfl (.inr rfl) (pe_callB (call_sortedDI rfl) (by rfl) Tp.n_sorted (by decide +kernel) (pa_cons (pv 2) pa_nil)))
      (pss_cons (ps_set (i := 6) sc_law.nd rfl (.inl rfl) (pe_tup (pa_cons (pe_make0 Tp.mk_Broad G_Broad_init (hr.mono (by decide)) (by rfl) Tp.gC_Broad Tp.b_Broad_init .nil pass0) (pa_cons (pe_make0 Tp.mk_Tree G_Tree_init (hr.mono (by decide)) (by rfl) Tp.gC_Tree Tp.b_Tree_init .nil pass0) pa_nil))))
      (pss_cons (ps_set (i := 7) sc_law.nd rfl (.inl rfl) (pe_tup (pa_cons (pe_make0 Tp.mk_Broad G_Broad_init (hr.mono (by decide)) (by rfl) Tp.gC_Broad Tp.b_Broad_init .nil pass0) (pa_cons (pe_make0 Tp.mk_Tree G_Tree_init (hr.mono (by decide)) (by rfl) Tp.gC_Tree Tp.b_Tree_init .nil pass0) pa_nil))))
      (pss_cons (ps_for PassesOwn.never rfl (pi_list (pv 5)) (pg_name (i := 4) sc_law.nd rfl (.inl rfl)) (pss_one (ps_for PassesOwn.never rfl (pi_tup (pv 6)) (pg_name (i := 8) sc_law.nd rfl (.inl rfl)) (pss_one (ps_expr (pe_or2 (pe_meth (pv 8) Tp.cl_Broad Tp.me_Broad_add G_Broad_add (hr.mono (by decide)) Tp.b_Broad_add .nil passL (pa_cons (pv 4) (pa_cons (pe_dget (hu_of hr) (pv 2) (pv 4) (fun _ _ => rfl)) pa_nil))) (pe_meth (pv 8) Tp.cl_Tree Tp.me_Tree_add G_Tree_add (hr.mono (by decide)) Tp.b_Tree_add .nil passL (pa_cons (pv 4) (pa_cons (pe_dget (hu_of hr) (pv 2) (pv 4) (fun _ _ => rfl)) pa_nil)))))))))
      (pss_cons (ps_for PassesOwn.never rfl (pi_range1 (by rfl) Tp.n_range (pa_cons (pe_callB call_len_seq (by rfl) Tp.n_len (by decide +kernel) (pa_cons (pv 5) pa_nil)) pa_nil)) (pg_name (i := 3) sc_law.nd rfl (.inl rfl)) (pss_cons (ps_set (i := 4) sc_law.nd rfl (.inl rfl) (pe_ix (r := rIxL K) ix_list (pv 5) (pe_op op_sub (pe_op op_sub (pe_callB call_len_seq (by rfl) Tp.n_len (by decide +kernel) (pa_cons (pv 5) pa_nil)) pe_int) (pv 3)) (fun _ _ => rfl)))
      (pss_cons (ps_set (i := 9) sc_law.nd rfl (.inl rfl) (pe_call G_law_box (hr.mono (by decide)) (by rfl) Tp.g_law_box Tp.F_law_box.kp Tp.b_law_box .nil pass0 (pa_cons (pv 1) (pa_cons (pe_lst pa_nil) pa_nil))))
      (pss_cons (ps_for PassesOwn.never rfl (pi_tup (pv 7)) (pg_name (i := 8) sc_law.nd rfl (.inl rfl)) (pss_cons (ps_expr (pe_or2 (pe_meth (pv 8) Tp.cl_Broad Tp.me_Broad_add G_Broad_add (hr.mono (by decide)) Tp.b_Broad_add .nil passL (pa_cons (pv 4) (pa_cons (pv 9) pa_nil))) (pe_meth (pv 8) Tp.cl_Tree Tp.me_Tree_add G_Tree_add (hr.mono (by decide)) Tp.b_Tree_add .nil passL (pa_cons (pv 4) (pa_cons (pv 9) pa_nil)))))
      (pss_one (ps_expr (pe_or2 (pe_meth (pv 8) Tp.cl_Broad Tp.me_Broad_add G_Broad_add (hr.mono (by decide)) Tp.b_Broad_add .nil passL (pa_cons (pe_op op_add pe_int (pv 3)) (pa_cons (pe_dget (hu_of hr) (pv 2) (pv 4) (fun _ _ => rfl)) pa_nil))) (pe_meth (pv 8) Tp.cl_Tree Tp.me_Tree_add G_Tree_add (hr.mono (by decide)) Tp.b_Tree_add .nil passL (pa_cons (pe_op op_add pe_int (pv 3)) (pa_cons (pe_dget (hu_of hr) (pv 2) (pv 4) (fun _ _ => rfl)) pa_nil))))))))
      (pss_one (ps_for PassesOwn.never rfl (pi_tup (pv 7)) (pg_name (i := 8) sc_law.nd rfl (.inl rfl)) (pss_cons (ps_expr (pe_or2 (pe_meth (pv 8) Tp.cl_Broad Tp.me_Broad_move G_Broad_move (hr.mono (by decide)) Tp.b_Broad_move .nil passL (pa_cons (pv 4) (pa_cons (pe_dget (hu_of hr) (pv 2) (pv 4) (fun _ _ => rfl)) pa_nil))) (pe_meth (pv 8) Tp.cl_Tree Tp.me_Tree_move G_Tree_move (hr.mono (by decide)) Tp.b_Tree_move .nil passL (pa_cons (pv 4) (pa_cons (pe_dget (hu_of hr) (pv 2) (pv 4) (fun _ _ => rfl)) pa_nil)))))
      (pss_one (ps_expr (pe_or2 (pe_meth (pv 8) Tp.cl_Broad Tp.me_Broad_remove G_Broad_remove (hr.mono (by decide)) Tp.b_Broad_remove .nil passL (pa_cons (pe_op op_add pe_int (pv 3)) pa_nil)) (pe_meth (pv 8) Tp.cl_Tree Tp.me_Tree_remove G_Tree_remove (hr.mono (by decide)) Tp.b_Tree_remove .nil passL (pa_cons (pe_op op_add pe_int (pv 3)) pa_nil))))))))))))
      (pss_cons (ps_for PassesOwn.never rfl (pi_range1 (by rfl) Tp.n_range (pa_cons pe_int pa_nil)) (pg_name (i := 10) sc_law.nd rfl (.inl rfl)) (pss_cons (ps_set (i := 11) sc_law.nd rfl (.inr rfl) (pe_call G_law_box (hr.mono (by decide)) (by rfl) Tp.g_law_box Tp.F_law_box.kp Tp.b_law_box .nil pass0 (pa_cons (pv 1) (pa_cons (pe_lc (own := [("name", 4)]) (g := gName 4) (tt := tYes) rfl sc_law.nd (pi_list (pv 5)) (blkOk_by (N := ["script", "d", "table", "k", "name", "names", "one", "other", "thing", "detour", "turn", "box", "origin", "path", "near"]) (sc := defScope s_law) (by decide +kernel)) (fun _ _ _ _ _ => pg_name (i := 4) sc_law.nd rfl (Or.inl rfl)) (fun _ _ _ _ _ => pts_nil) (fun _ _ _ _ _ => (pe_dget (hu_of hr) (pv 2) (pv 4) (fun _ _ => rfl)))) pa_nil))))
      (pss_cons (ps_set (i := 12) sc_law.nd rfl (.inl rfl) (pe_call G_law_vector (hr.mono (by decide)) (by rfl) Tp.g_law_vector Tp.F_law_vector.kp Tp.b_law_vector .nil pass0 (pa_cons (pv 1) (pa_cons pe_int pa_nil))))
      (pss_cons (ps_set (i := 13) sc_law.nd rfl (.inl rfl) (pe_call G_law_vector (hr.mono (by decide)) (by rfl) Tp.g_law_vector Tp.F_law_vector.kp Tp.b_law_vector .nil pass0 (pa_cons (pv 1) (pa_cons pe_int pa_nil))))
      (pss_cons (ps_set (i := 14) sc_law.nd rfl (.inr rfl) (pe_or2 (pe_meth (pe_ix (r := rIxT K) ix_tup (pv 6) pe_int (fun _ _ => rfl)) Tp.cl_Broad Tp.me_Broad_near G_Broad_near (hr.mono (by decide)) Tp.b_Broad_near .nil passL (pa_cons (pv 11) pa_nil)) (pe_meth (pe_ix (r := rIxT K) ix_tup (pv 6) pe_int (fun _ _ => rfl)) Tp.cl_Tree Tp.me_Tree_near G_Tree_near (hr.mono (by decide)) Tp.b_Tree_near .nil passL (pa_cons (pv 11) pa_nil))))
      (pss_cons (ps_if (PW.pt (pw_or (pt_not (pt_val (pe_callB (cr_all rfl) (by rfl) Tp.n_all (by decide +kernel) (pa_cons (pe_lc (own := [("thing", 8)]) (g := gName 8) (tt := tYes) rfl sc_law.nd (pi_tup (pe_op (r := rCatA K) op_catA (pv 6) (pv 7))) (blkOk_by (N := ["script", "d", "table", "k", "name", "names", "one", "other", "thing", "detour", "turn", "box", "origin", "path", "near"]) (sc := defScope s_law) (by decide +kernel)) (fun _ _ _ _ _ => pg_name (i := 8) sc_law.nd rfl (Or.inl rfl)) (fun _ _ _ _ _ => pts_nil) (fun _ _ _ _ _ => (pe_cmpR (r := rEqD K) (op_eqD hr.units) (pe_or2 (pe_meth (pv 8) Tp.cl_Broad Tp.me_Broad_near G_Broad_near (hr.mono (by decide)) Tp.b_Broad_near .nil passL (pa_cons (pv 11) pa_nil)) (pe_meth (pv 8) Tp.cl_Tree Tp.me_Tree_near G_Tree_near (hr.mono (by decide)) Tp.b_Tree_near .nil passL (pa_cons (pv 11) pa_nil))) (pv 14) (nomark _)))) pa_nil)))) (pw_or1 (pt_cmpR (op_neD hr.units) (pe_meth (pe_ix (r := rIxT K) ix_tup (pv 6) pe_int (fun _ _ => rfl)) Tp.cl_Tree Tp.me_Tree_hit G_Tree_hit (hr.mono (by decide)) Tp.b_Tree_hit .nil pass0 (pa_cons (pv 12) (pa_cons (pv 13) pa_nil))) (pe_meth (pe_ix (r := rIxT K) ix_tup (pv 7) pe_int (fun _ _ => rfl)) Tp.cl_Tree Tp.me_Tree_hit G_Tree_hit (hr.mono (by decide)) Tp.b_Tree_hit .nil pass0 (pa_cons (pv 12) (pa_cons (pv 13) pa_nil))) (nomark _))))) (pss_one (ps_ret pe_bl)) pss_nil)
      (pss_one (ps_if (pt_cmpR (op_neD hr.units) (pe_meth (pe_ix (r := rIxT K) ix_tup (pv 6) pe_int (fun _ _ => rfl)) Tp.cl_Tree Tp.me_Tree_closest G_Tree_closest (hr.mono (by decide)) Tp.b_Tree_closest .nil pass0 (pa_cons (pv 12) pa_nil)) (pe_meth (pe_ix (r := rIxT K) ix_tup (pv 7) pe_int (fun _ _ => rfl)) Tp.cl_Tree Tp.me_Tree_closest G_Tree_closest (hr.mono (by decide)) Tp.b_Tree_closest .nil pass0 (pa_cons (pv 12) pa_nil)) (nomark _)) (pss_one (ps_ret pe_bl)) pss_nil))))))))
      (pss_cons (ps_if (PW.pt (pw_or (pt_not (pt_val (pe_callB (cr_all rfl) (by rfl) Tp.n_all (by decide +kernel) (pa_cons (pe_lc (own := [("thing", 8)]) (g := gName 8) (tt := tYes) rfl sc_law.nd (pi_tup (pe_op (r := rCatA K) op_catA (pv 6) (pv 7))) (blkOk_by (N := ["script", "d", "table", "k", "name", "names", "one", "other", "thing", "detour", "turn", "box", "origin", "path", "near"]) (sc := defScope s_law) (by decide +kernel)) (fun _ _ _ _ _ => pg_name (i := 8) sc_law.nd rfl (Or.inl rfl)) (fun _ _ _ _ _ => pts_nil) (fun _ _ _ _ _ => (pe_cmpR (r := rEqD K) (op_eqD hr.units) (pe_or2 (pe_prop (pv 8) Tp.cl_Broad Tp.pr_Broad_names G_Broad_names (hr.mono (by decide)) Tp.b_Broad_names .nil pass0 rfl) (pe_prop (pv 8) Tp.cl_Tree Tp.pr_Tree_names G_Tree_names (hr.mono (by decide)) Tp.b_Tree_names .nil pass0 rfl)) (pe_callTy (T := "tuple") (r := rTupOf K) call_tuple_of (by rfl) Tp.n_tuple (by decide +kernel) (pa_cons (pv 5) pa_nil)) (nomark _)))) pa_nil)))) (pw_or1 (pt_cmpR (op_neD hr.units) (pe_meth0 (pe_ix (r := rIxT K) ix_tup (pv 6) pe_int (fun _ _ => rfl)) Tp.cl_Broad Tp.me_Broad_pairs G_Broad_pairs (hr.mono (by decide)) Tp.b_Broad_pairs .nil pass0) (pe_meth0 (pe_ix (r := rIxT K) ix_tup (pv 7) pe_int (fun _ _ => rfl)) Tp.cl_Broad Tp.me_Broad_pairs G_Broad_pairs (hr.mono (by decide)) Tp.b_Broad_pairs .nil pass0) (nomark _))))) (pss_one (ps_ret pe_bl)) pss_nil)
      (pss_one (ps_ret (pe_callB (cr_all rfl) (by rfl) Tp.n_all (by decide +kernel) (pa_cons (pe_lc (own := [("thing", 8)]) (g := gName 8) (tt := tYes) rfl sc_law.nd (pi_tup (pe_op (r := rCatA K) op_catA (pv 6) (pv 7))) (blkOk_by (N := ["script", "d", "table", "k", "name", "names", "one", "other", "thing", "detour", "turn", "box", "origin", "path", "near"]) (sc := defScope s_law) (by decide +kernel)) (fun _ _ _ _ _ => pg_name (i := 8) sc_law.nd rfl (Or.inr rfl)) (fun _ _ _ _ _ => pts_nil) (fun _ _ _ _ _ => (pe_callB (id := "all") (r := rAll K) (cr_all rfl) (by rfl) Tp.n_all (by decide +kernel) (pa_cons (pe_lc (own := [("name", 4)]) (g := gName 4) (wi := iList K _) (tt := tYes) rfl sc_law.nd (pi_list (pv 5)) (blkOk_by (N := ["script", "d", "table", "k", "name", "names", "one", "other", "thing", "detour", "turn", "box", "origin", "path", "near"]) (by with_unfolding_all rfl)) (fun _ _ _ _ _ => pg_name (i := 4) sc_law.nd rfl (Or.inl rfl)) (fun _ _ _ _ _ => pts_nil) (fun _ _ _ _ _ => (pe_cmpR (r := rEqD K) (op_eqD hr.units) (pe_or2 (pe_meth (pv 8) Tp.cl_Broad Tp.me_Broad_box_of G_Broad_box_of (hr.mono (by decide)) Tp.b_Broad_box_of .nil passL (pa_cons (pv 4) pa_nil)) (pe_meth (pv 8) Tp.cl_Tree Tp.me_Tree_box_of G_Tree_box_of (hr.mono (by decide)) Tp.b_Tree_box_of .nil passL (pa_cons (pv 4) pa_nil))) (pe_dget (hu_of hr) (pv 2) (pv 4) (fun _ _ => rfl)) (nomark _)))) pa_nil)))) pa_nil)))))))))))))), body_LT ?_ h⟩
  refine fun ns hl => ?_
  walk_at "norm"
  refine s_beginT (ns := ns) (by walk_at "ev") fun p C ok nf => ?_
  have z9 : ∀ m : Int, m.natAbs < 2 ^ 4 → m.natAbs < 2 ^ 8500 := fun m h => FR.sz_le h (by decide)
  have z9' : ∀ m : Int, m.natAbs < 2 ^ 7 → m.natAbs < 2 ^ 8500 := fun m h => FR.sz_le h (by decide)
  have nt : ∀ a, ¬ (Asn.tab Tp.tabs).foot a := fun a z => z
  refine s_newK fun q hq => ?_
  have pq : q ≠ p := fun z => hq (.inl z)
  have nfq : ∀ X, ¬ (kJ K q X (.tab Tp.tabs)).foot p := fun X z => by
    rcases z with z | z
    · exact pq z.symm
    · exact nf z
  refine s_pre (I' := (dJ K p C (kJ K q (bxsD []) (.tab Tp.tabs)))) (fun G H z => ⟨z.2.1, z.1, z.2.2⟩) ?_
  obtain ⟨ok1, t1, t2⟩ := take_ok (C := C) (m := 11) ok (by decide)
  refine s_loopN (α := Tb × DS) (fun i a => DOk a.2 ∧ TW i a.1) (fun _ => [some (.d (.list (ns.map PyData.int))), some (.r p), some (.r q), none, none, none, none, none, none, none, none, none, none, none, none]) (fun a => (dJ K p a.2 (kJ K q (bxsD a.1) (.tab Tp.tabs)))) ([], (take C 11).2) ⟨ok1, .nil, fun z hz => (by cases hz), Nat.le_refl _⟩ (iw_ri (m := (take C 11).1) (a_cons (e_draw (R := PL.RTake) (ds := [.i 11]) (C := C) (by walk_at "ev") ⟨_, rfl, ok, by decide, z9 _ (by decide), rfl, rfl⟩ (nfq _)) a_nil) ⟨by omega, by omega⟩) rfl (fun i a hi hw => ⟨_, g_name, .inl ?_⟩) fun a hw => ?_
  · obtain ⟨tb, C1⟩ := a
    obtain ⟨o1, tw⟩ := hw
    replace o1 : DOk C1 := o1
    replace tw : TW i tb := tw
    have hi7 : i < 11 := by omega
    refine s_neW (P := fun r M => r = [some (.d (.list (ns.map PyData.int))), some (.r p), some (.r q), some (.i (i : Nat)), none, none, none, none, none, none, none, none, none, none, none] ∧ ∃ tb' C', (DOk C' ∧ TW (i + 1) tb') ∧ M = (dJ K p C' (kJ K q (bxsD tb') (.tab Tp.tabs)))) (s_putEN (Q0 := fun x C' => DOk C' ∧ ∃ b, x = bxd b ∧ BN (10 + 6 * i + 6) b ∧ b.sized = true) ?_ rfl (fun x C' h => ?_) (by unfold bxsD; rw [List.length_map]; have := tw.le; show tb.length < 100000; omega) (nt q) pq) ?_
    · refine en_draw (R := RBoxN K) (J := kJ K q (bxsD tb) (.tab Tp.tabs)) (ds := [.d (.list (((tbS tb).map (·.2)).map bxd))]) (C := C1) (Z := .tt) (a_cons (e_var rfl) (a_cons ?_ a_nil)) ⟨10 + 6 * i, (tbS tb).map (·.2), o1, by omega, tw.ini (by omega), by rw [List.length_map]; have := (tw.wk (by omega)).le; omega, .inl ⟨rfl, rfl⟩, rfl⟩ (nfq (bxsD tb)) (fun _ _ _ => trivial) (fun z => z) fun d C' po => ?_
      · refine e_bxs (t := tbS tb) (by decide) (by have := (tw.wk (by omega)).le; omega) (e_is (e_sortKR (q := q) (ks := nms tb) (es := srtI (nms tb)) (a_cons (e_var rfl) a_nil) (fun G H z => by
          obtain ⟨_, ⟨_, vs, h1, h2⟩, _⟩ := z
          exact ⟨vs, h1, h2.1.trans (bx_keys tb)⟩) (by unfold nms; rw [List.length_map]; have := tw.le; omega) (srtI_perm _) (srtI_up _)) (by rw [nms_S])) fun j z hz I' hI => ?_
        exact e_kGetM (q := q) (kvs := bxsD tb) (e_var rfl) (e_var rfl) (fun G H h => (hI G H h).2.1) ((tw.wk (by omega)).vl z (List.mem_of_getElem? hz))
      · obtain ⟨oc, b, rfl, hb, hs⟩ := po
        exact ⟨bxd b, C', rfl, ⟨oc, b, rfl, hb, hs⟩, rfl⟩
    · obtain ⟨oc, b, rfl, hb, hs⟩ := h
      obtain ⟨o2, u1, u2⟩ := take_ok (C := C') (m := 40) oc (by decide)
      exact ⟨(take C' 40).1, (take C' 40).2, e_draw (R := PL.RTake) (ds := [.i 40]) (C := C') (by walk_at "ev") ⟨_, rfl, oc, by decide, z9' _ (by decide), rfl, rfl⟩ (nfq _), rfl, setT tb (take C' 40).1 b, (take C' 40).2, ⟨o2, tw.set u1 u2 hb hs⟩, by rw [put_set]⟩
    · rintro r M ⟨rfl, tb', C', hw, rfl⟩
      exact ⟨[some (.d (.list (ns.map PyData.int))), some (.r p), some (.r q), none, none, none, none, none, none, none, none, none, none, none, none], ⟨.inr rfl, .inr rfl, .inr rfl, .inl rfl, .inr rfl, .inr rfl, .inr rfl, .inr rfl, .inr rfl, .inr rfl, .inr rfl, .inr rfl, .inr rfl, .inr rfl, .inr rfl, trivial⟩, (tb', C'), hw, rfl, rfl⟩
  obtain ⟨tb, C1⟩ := a
  obtain ⟨o1, tw⟩ := hw
  replace o1 : DOk C1 := o1
  have hi10 : (take C 11).1.toNat ≤ 10 := by omega
  have wk := TW.wk tw hi10
  refine s_seq (s_asg (e_is (e_sortKR (q := q) (ks := nms tb) (es := srtI (nms tb)) (a_cons (e_var rfl) a_nil) (fun G H z => by
    obtain ⟨_, ⟨_, vs, h1, h2⟩, _⟩ := z
    exact ⟨vs, h1, h2.1.trans (bx_keys tb)⟩) (by unfold nms; rw [List.length_map]; have : tb.length ≤ _ := tw.le; omega) (srtI_perm _) (srtI_up _)) (show _ = Dat.d (.list ((nms (tbS tb)).map PyData.int)) by rw [nms_S]))) ?_
  refine s_pre (I' := kJ K q (bxsD tb) (dJ K p C1 (.tab Tp.tabs))) (fun G H z => ⟨z.2.1, z.1, z.2.2⟩) ?_
  refine s_freezeK (i := 2) rfl (fun z => z.elim pq (nt q)) ?_
  generalize bxsD tb = kv at *
  generalize tbS tb = t at *
  clear tw hi10 t1 t2 ok1 ok nfq pq hq
  refine s_asgN en_two fun d L ⟨a1, a2, Y1, Y2, ed, i1, i2, p1, p2, eL⟩ => ?_
  subst ed eL
  refine s_asgN en_two fun d L ⟨a3, a4, Y3, Y4, ed, i3, i4, p3, p4, eL⟩ => ?_
  subst ed eL
  have ob := obs_4 (p := p) i1 i2 i3 i4 p1 p2 p3 p4 (.inl rfl)
  refine s_pre (I' := (bA K p C1 (.tab Tp.tabs) 4 (at4 Y1 Y2 Y3 Y4))) (fun G H z => ⟨z.2.2.2.2.1, fun j hj => by
    match j, hj with
    | 0, _ => exact z.2.2.2.1
    | 1, _ => exact z.2.2.1
    | 2, _ => exact z.2.1
    | 3, _ => exact z.1, z.2.2.2.2.2⟩) ?_
  refine s_lessN2 (ρ' := [some (.d (.list (ns.map PyData.int))), some (.r p), some (.k kv), none, none, some (.d (.list ((nms t).map PyData.int))), some (dR K [at4 a1 a2 a3 a4 0, at4 a1 a2 a3 a4 1]), some (dR K [at4 a1 a2 a3 a4 2, at4 a1 a2 a3 a4 3]), none, none, none, none, none, none, none]) rfl ?_
  generalize at4 a1 a2 a3 a4 = qs at *
  generalize at4 Y1 Y2 Y3 Y4 = zs at *
  clear i1 i2 i3 i4 p1 p2 p3 p4
  have ln : ((nms t).map PyData.int).length = t.length := by rw [List.length_map]; exact List.length_map _
  have lt10 := wk.le
  refine s_loopN (α := Nat → Asn) (fun k zs => Obs (IsX K Tp.C_Broad Tp.C_Tree) 4 p qs (tbc [] (t.take k) 0) zs) (fun _ => [some (.d (.list (ns.map PyData.int))), some (.r p), some (.k kv), none, none, some (.d (.list ((nms t).map PyData.int))), some (dR K [qs 0, qs 1]), some (dR K [qs 2, qs 3]), none, none, none, none, none, none, none]) (fun zs => (bA K p C1 (.tab Tp.tabs) 4 zs)) zs (ob.cg fun j hj => by unfold tbc; split <;> rfl) (iw_l (ds := (nms t).map PyData.int) (e_var rfl)) rfl (fun k zs hk ob => ⟨_, g_name, .inl ?_⟩) fun zs ob => ?_
  · have hk' : k < t.length := by omega
    obtain ⟨z, hz⟩ : ∃ z, t[k]? = some z := ⟨_, List.getElem?_eq_getElem hk'⟩
    have mz := List.mem_of_getElem? hz
    obtain ⟨⟨r0, r1⟩, r2, r3⟩ := wk.rg z mz
    have ea : at0 ((nms t).map PyData.int) k = .int z.1 := by
      rw [at0_map (f := PyData.int) (z := z.1) (by unfold nms; rw [List.getElem?_map, hz]; rfl)]
    rw [ea]
    obtain ⟨tk, no⟩ := take_no wk.nd hz
    refine s_noseq (s_loopRf (qs := [qs 0, qs 1]) (α := Nat → Asn) (fun m zs => Obs (IsX K Tp.C_Broad Tp.C_Tree) 4 p qs (tbm [] (t.take k) (t.take (k + 1)) 0 m) zs) (fun _ => [some (.d (.list (ns.map PyData.int))), some (.r p), some (.k kv), none, some (.i z.1), some (.d (.list ((nms t).map PyData.int))), some (dR K [qs 0, qs 1]), some (dR K [qs 2, qs 3]), none, none, none, none, none, none, none]) (fun zs => (bA K p C1 (.tab Tp.tabs) 4 zs)) zs (by rw [tbm_0]; exact ob) (e_var rfl) rfl (fun m zs q hq ob => ?_) fun zs ob => ?_)
    · obtain ⟨hm, rfl⟩ := two_at (lo := 0) hq
      refine s_neW (P := fun r M => r = [some (.d (.list (ns.map PyData.int))), some (.r p), some (.k kv), none, some (.i z.1), some (.d (.list ((nms t).map PyData.int))), some (dR K [qs 0, qs 1]), some (dR K [qs 2, qs 3]), some (.r (qs (0 + m))), none, none, none, none, none, none] ∧ ∃ zs', Obs (IsX K Tp.C_Broad Tp.C_Tree) 4 p qs (upN (tbm [] (t.take k) (t.take (k + 1)) 0 m) (0 + m) (t.take (k + 1))) zs' ∧ M = (bA K p C1 (.tab Tp.tabs) 4 zs')) (s_dropN (en_mut2 (T := Tp.tabs) (RF := RAdd) (i := 0 + m) ob (by omega) nt (fun _ _ _ => rfl) (fun _ _ => rfl) (fun _ => e_var rfl) (fun _ => (a_cons (e_var rfl) (a_cons (e_kGet (e_var rfl) (e_var rfl) (wk.vl z mz)) a_nil))) (fun Is Z h => by rw [tbm_at hm] at h; exact ⟨_, z.1, z.2, t.take k, rfl, h, r0, no, r3, by rw [List.length_take]; omega, by rw [tk]⟩)) fun d L h => ⟨rfl, h⟩) ?_
      rintro r M ⟨rfl, zs', ob', rfl⟩
      exact ⟨[some (.d (.list (ns.map PyData.int))), some (.r p), some (.k kv), none, some (.i z.1), some (.d (.list ((nms t).map PyData.int))), some (dR K [qs 0, qs 1]), some (dR K [qs 2, qs 3]), none, none, none, none, none, none, none], ⟨.inr rfl, .inr rfl, .inr rfl, .inr rfl, .inr rfl, .inr rfl, .inr rfl, .inr rfl, .inl rfl, .inr rfl, .inr rfl, .inr rfl, .inr rfl, .inr rfl, .inr rfl, trivial⟩, zs', by rw [← tbm_s]; exact ob', rfl, rfl⟩
    · exact s_ne (ρ1 := [some (.d (.list (ns.map PyData.int))), some (.r p), some (.k kv), none, none, some (.d (.list ((nms t).map PyData.int))), some (dR K [qs 0, qs 1]), some (dR K [qs 2, qs 3]), none, none, none, none, none, none, none]) (J := (bA K p C1 (.tab Tp.tabs) 4 zs)) (s_lessN (ρ' := [some (.d (.list (ns.map PyData.int))), some (.r p), some (.k kv), none, some (.i z.1), some (.d (.list ((nms t).map PyData.int))), some (dR K [qs 0, qs 1]), some (dR K [qs 2, qs 3]), none, none, none, none, none, none, none]) ⟨.inr rfl, .inr rfl, .inr rfl, .inr rfl, .inl rfl, .inr rfl, .inr rfl, .inr rfl, .inr rfl, .inr rfl, .inr rfl, .inr rfl, .inr rfl, .inr rfl, .inr rfl, trivial⟩ s_next) ⟨zs, by rw [← tbm_2 [] (t.take k) (t.take (k + 1)) 0]; exact ob, rfl, rfl⟩
  rw [ln, List.take_length] at ob
  refine s_loopN (α := (Nat → Asn) × DS) (fun k a => DOk a.2 ∧ Obs (IsX K Tp.C_Broad Tp.C_Tree) 4 p qs (tbc t (t.reverse.take k) 2) a.1) (fun _ => [some (.d (.list (ns.map PyData.int))), some (.r p), some (.k kv), none, none, some (.d (.list ((nms t).map PyData.int))), some (dR K [qs 0, qs 1]), some (dR K [qs 2, qs 3]), none, none, none, none, none, none, none]) (fun a => (bA K p a.2 (.tab Tp.tabs) 4 a.1)) (zs, C1) ⟨o1, ob.cg fun j hj => by
    unfold tbc
    by_cases c : j < 2
    · rw [if_neg (by omega), if_pos (by omega)]
    · rw [if_pos (by omega), if_neg (by omega), List.take_zero]⟩ (iw_ri (m := ((((nms t).map PyData.int).length : Nat) : Int)) (p_cons (p_len (ds := (nms t).map PyData.int) (p_cons (e_var rfl) a_nil)) a_nil) ⟨by rw [ln]; omega, by rw [ln]; omega⟩) rfl (fun k a hk hw => ⟨_, g_name, .inl ?_⟩) fun a hw => ?_
  · obtain ⟨zs, C2⟩ := a
    obtain ⟨o2, ob⟩ := hw
    replace o2 : DOk C2 := o2
    replace ob : Obs (IsX K Tp.C_Broad Tp.C_Tree) 4 p qs (tbc t (t.reverse.take k) 2) zs := ob
    replace hk : k < t.length := by rw [ln, Int.toNat_natCast] at hk; exact hk
    have hk' : t.length - 1 - k < t.length := by omega
    obtain ⟨z, hz⟩ : ∃ z, t[t.length - 1 - k]? = some z := ⟨_, List.getElem?_eq_getElem hk'⟩
    have mz := List.mem_of_getElem? hz
    obtain ⟨⟨r0, r1⟩, r2, r3⟩ := wk.rg z mz
    have hzr : t.reverse[k]? = some z := by rw [List.getElem?_reverse hk]; exact hz
    obtain ⟨tk, no⟩ := take_no (t := t.reverse) (((nms_rev t).nodup_iff).mpr wk.nd) hzr
    have no2 : ∀ y : Int, 40 ≤ y → y ∉ nms (t.reverse.take k) := fun y hy hm => by
      obtain ⟨w, hw, e⟩ := List.mem_map.mp hm
      have := (wk.rg w (List.mem_reverse.mp ((List.take_sublist _ _).subset hw))).1.2
      omega
    have lr : t.reverse.length = t.length := List.length_reverse
    have ei : ((((nms t).map PyData.int).length : Nat) : Int) - 1 - (k : Nat) = ((t.length - 1 - k : Nat) : Int) := by rw [ln]; omega
    refine s_seq (s_asg (d := .i z.1) (p_ixL (ds := (nms t).map PyData.int) (i := ((((nms t).map PyData.int).length : Nat) : Int) - 1 - (k : Nat)) (e_var rfl) (p_sub (p_sub (p_len (ds := (nms t).map PyData.int) (p_cons (e_var rfl) a_nil)) e_int) (e_var rfl)) (by rw [ei]; exact atI_nat (by unfold nms; rw [List.getElem?_map, List.getElem?_map, hz]; rfl)))) ?_
    refine s_asgN (P := fun d L => ∃ c C', d = .d (bxd c) ∧ DOk C' ∧ Bg c ∧ L = (bA K p C' (.tab Tp.tabs) 4 zs)) (en_draw (R := RBoxN K) (ds := [.d (.list (([] : List Bx).map bxd))]) (C := C2) (Z := .tt) (a_cons (e_var rfl) (a_cons (e_lst a_nil .nil (by decide)) a_nil)) ⟨10, [], o2, by omega, fun b h => (by cases h), by decide, .inl ⟨rfl, rfl⟩, rfl⟩ (nf_o ob nt) (fun _ _ _ => trivial) (fun z => z) fun d C' po => ?_) fun d L po => ?_
    · obtain ⟨oc, c, rfl, hb, hs⟩ := po
      exact ⟨c, C', rfl, oc, ⟨hb.mono (by omega), hs⟩, rfl⟩
    obtain ⟨c, C3, rfl, o3, bc, rfl⟩ := po
    have no3 : (50 + (k : Int)) ∉ nms ((t.reverse.take k) ++ [(z.1, c)]) := fun hm => by
      unfold nms at hm
      rw [List.map_append] at hm
      rcases List.mem_append.mp hm with hm | hm
      · exact no2 _ (by omega) hm
      · have hm : (50 + (k : Int)) = z.1 := List.mem_singleton.mp hm
        omega
    have nez : z.1 ≠ 50 + (k : Int) := by omega
    have tour : delT (delT (t.reverse.take k ++ [(z.1, c)] ++ [(50 + (k : Int), z.2)]) z.1 ++ [(z.1, z.2)]) (50 + (k : Int)) = (t.reverse.take (k + 1)) := by rw [tour_1 no (no2 _ (by omega)) nez, tk]
    have in1 : z.1 ∈ nms (t.reverse.take k ++ [(z.1, c)] ++ [(50 + (k : Int), z.2)]) := List.mem_map.mpr ⟨(z.1, c), List.mem_append_left _ (List.mem_append_right _ List.mem_cons_self), rfl⟩
    have in2 : (50 + (k : Int)) ∈ nms (delT (t.reverse.take k ++ [(z.1, c)] ++ [(50 + (k : Int), z.2)]) z.1 ++ [(z.1, z.2)]) := List.mem_map.mpr ⟨(50 + (k : Int), z.2), List.mem_append_left _ (List.mem_filter.mpr ⟨List.mem_append_right _ List.mem_cons_self, decide_eq_true (show (50 + (k : Int)) ≠ z.1 from fun e => nez e.symm)⟩), rfl⟩
    refine s_loopRf (qs := [qs 2, qs 3]) (α := Nat → Asn) (fun m zs => Obs (IsX K Tp.C_Broad Tp.C_Tree) 4 p qs (tbm t (t.reverse.take k) (t.reverse.take k ++ [(z.1, c)] ++ [(50 + (k : Int), z.2)]) 2 m) zs) (fun _ => [some (.d (.list (ns.map PyData.int))), some (.r p), some (.k kv), some (.i (k : Nat)), some (.i z.1), some (.d (.list ((nms t).map PyData.int))), some (dR K [qs 0, qs 1]), some (dR K [qs 2, qs 3]), none, some (.d (bxd c)), none, none, none, none, none]) (fun zs => (bA K p C3 (.tab Tp.tabs) 4 zs)) zs (by rw [tbm_0]; exact ob) (e_var rfl) rfl (fun m zs q hq ob => ?_) fun zs ob => ?_
    · obtain ⟨hm, rfl⟩ := two_at (lo := 2) hq
      have h2m : 2 + m < 4 := by omega
      refine s_neW (P := fun r M => r = [some (.d (.list (ns.map PyData.int))), some (.r p), some (.k kv), some (.i (k : Nat)), some (.i z.1), some (.d (.list ((nms t).map PyData.int))), some (dR K [qs 0, qs 1]), some (dR K [qs 2, qs 3]), some (.r (qs (2 + m))), some (.d (bxd c)), none, none, none, none, none] ∧ ∃ zs', Obs (IsX K Tp.C_Broad Tp.C_Tree) 4 p qs (upN (tbm t (t.reverse.take k) (t.reverse.take k ++ [(z.1, c)] ++ [(50 + (k : Int), z.2)]) 2 m) (2 + m) (t.reverse.take k ++ [(z.1, c)] ++ [(50 + (k : Int), z.2)])) zs' ∧ M = (bA K p C3 (.tab Tp.tabs) 4 zs')) (s_dropNS (en_mut2 (T := Tp.tabs) (RF := RAdd) (i := 2 + m) ob h2m nt (fun _ _ _ => rfl) (fun _ _ => rfl) (fun _ => e_var rfl) (fun _ => (a_cons (e_var rfl) (a_cons (e_var rfl) a_nil))) (fun Is Z h => by rw [tbm_at hm] at h; exact ⟨_, z.1, c, (t.reverse.take k), rfl, h, r0, no, bc, by rw [List.length_take]; omega, rfl⟩)) fun d L h => ?_) ?_
      · obtain ⟨zs', ob', rfl⟩ := h
        exact s_dropN (en_mut2 (T := Tp.tabs) (RF := RAdd) (i := 2 + m) ob' h2m nt (fun _ _ _ => rfl) (fun _ _ => rfl) (fun _ => e_var rfl) (fun _ => (a_cons (e_add e_int (e_var rfl)) (a_cons (e_kGet (e_var rfl) (e_var rfl) (wk.vl z mz)) a_nil))) (fun Is Z h => by rw [upN_eq] at h; exact ⟨_, 50 + (k : Int), z.2, (t.reverse.take k) ++ [(z.1, c)], rfl, h, by omega, no3, r3, by rw [List.length_append, List.length_take]; show _ + 1 < 13; omega, rfl⟩)) fun d L h => ⟨rfl, by rw [upN_2] at h; exact h⟩
      · rintro r M ⟨rfl, zs', ob', rfl⟩
        exact ⟨[some (.d (.list (ns.map PyData.int))), some (.r p), some (.k kv), some (.i (k : Nat)), some (.i z.1), some (.d (.list ((nms t).map PyData.int))), some (dR K [qs 0, qs 1]), some (dR K [qs 2, qs 3]), none, some (.d (bxd c)), none, none, none, none, none], ⟨.inr rfl, .inr rfl, .inr rfl, .inr rfl, .inr rfl, .inr rfl, .inr rfl, .inr rfl, .inl rfl, .inr rfl, .inr rfl, .inr rfl, .inr rfl, .inr rfl, .inr rfl, trivial⟩, zs', by rw [← tbm_s]; exact ob', rfl, rfl⟩
    
    replace ob : Obs (IsX K Tp.C_Broad Tp.C_Tree) 4 p qs (tbm t (t.reverse.take k) (t.reverse.take k ++ [(z.1, c)] ++ [(50 + (k : Int), z.2)]) 2 2) zs := ob
    rw [tbm_2, ← tbm_0 t (t.reverse.take k ++ [(z.1, c)] ++ [(50 + (k : Int), z.2)]) (t.reverse.take (k + 1)) 2] at ob
    refine s_noseq (s_loopRf (qs := [qs 2, qs 3]) (α := Nat → Asn) (fun m zs => Obs (IsX K Tp.C_Broad Tp.C_Tree) 4 p qs (tbm t (t.reverse.take k ++ [(z.1, c)] ++ [(50 + (k : Int), z.2)]) (t.reverse.take (k + 1)) 2 m) zs) (fun _ => [some (.d (.list (ns.map PyData.int))), some (.r p), some (.k kv), some (.i (k : Nat)), some (.i z.1), some (.d (.list ((nms t).map PyData.int))), some (dR K [qs 0, qs 1]), some (dR K [qs 2, qs 3]), none, some (.d (bxd c)), none, none, none, none, none]) (fun zs => (bA K p C3 (.tab Tp.tabs) 4 zs)) zs ob (e_var rfl) rfl (fun m zs q hq ob => ?_) fun zs ob => ?_)
    · obtain ⟨hm, rfl⟩ := two_at (lo := 2) hq
      have h2m : 2 + m < 4 := by omega
      refine s_neW (P := fun r M => r = [some (.d (.list (ns.map PyData.int))), some (.r p), some (.k kv), some (.i (k : Nat)), some (.i z.1), some (.d (.list ((nms t).map PyData.int))), some (dR K [qs 0, qs 1]), some (dR K [qs 2, qs 3]), some (.r (qs (2 + m))), some (.d (bxd c)), none, none, none, none, none] ∧ ∃ zs', Obs (IsX K Tp.C_Broad Tp.C_Tree) 4 p qs (upN (tbm t (t.reverse.take k ++ [(z.1, c)] ++ [(50 + (k : Int), z.2)]) (t.reverse.take (k + 1)) 2 m) (2 + m) (t.reverse.take (k + 1))) zs' ∧ M = (bA K p C3 (.tab Tp.tabs) 4 zs')) (s_dropNS (en_mut2 (T := Tp.tabs) (RF := RMove) (i := 2 + m) ob h2m nt (fun _ _ _ => rfl) (fun _ _ => rfl) (fun _ => e_var rfl) (fun _ => (a_cons (e_var rfl) (a_cons (e_kGet (e_var rfl) (e_var rfl) (wk.vl z mz)) a_nil))) (fun Is Z h => by rw [tbm_at hm] at h; exact ⟨_, z.1, z.2, (t.reverse.take k ++ [(z.1, c)] ++ [(50 + (k : Int), z.2)]), rfl, h, in1, r3, rfl⟩)) fun d L h => ?_) ?_
      · obtain ⟨zs', ob', rfl⟩ := h
        exact s_dropN (en_mut2 (T := Tp.tabs) (RF := RTake) (i := 2 + m) ob' h2m nt (fun _ _ _ => rfl) (fun _ _ => rfl) (fun _ => e_var rfl) (fun _ => (a_cons (e_add e_int (e_var rfl)) a_nil)) (fun Is Z h => by rw [upN_eq] at h; exact ⟨_, 50 + (k : Int), delT (t.reverse.take k ++ [(z.1, c)] ++ [(50 + (k : Int), z.2)]) z.1 ++ [(z.1, z.2)], rfl, h, in2, by rw [tour]⟩)) fun d L h => ⟨rfl, by rw [upN_2] at h; exact h⟩
      · rintro r M ⟨rfl, zs', ob', rfl⟩
        exact ⟨[some (.d (.list (ns.map PyData.int))), some (.r p), some (.k kv), some (.i (k : Nat)), some (.i z.1), some (.d (.list ((nms t).map PyData.int))), some (dR K [qs 0, qs 1]), some (dR K [qs 2, qs 3]), none, some (.d (bxd c)), none, none, none, none, none], ⟨.inr rfl, .inr rfl, .inr rfl, .inr rfl, .inr rfl, .inr rfl, .inr rfl, .inr rfl, .inl rfl, .inr rfl, .inr rfl, .inr rfl, .inr rfl, .inr rfl, .inr rfl, trivial⟩, zs', by rw [← tbm_s]; exact ob', rfl, rfl⟩
    
    replace ob : Obs (IsX K Tp.C_Broad Tp.C_Tree) 4 p qs (tbm t (t.reverse.take k ++ [(z.1, c)] ++ [(50 + (k : Int), z.2)]) (t.reverse.take (k + 1)) 2 2) zs := ob
    rw [tbm_2] at ob
    exact s_ne (ρ1 := [some (.d (.list (ns.map PyData.int))), some (.r p), some (.k kv), none, none, some (.d (.list ((nms t).map PyData.int))), some (dR K [qs 0, qs 1]), some (dR K [qs 2, qs 3]), none, none, none, none, none, none, none]) (J := (bA K p C3 (.tab Tp.tabs) 4 zs)) (s_lessN (ρ' := [some (.d (.list (ns.map PyData.int))), some (.r p), some (.k kv), some (.i (k : Nat)), some (.i z.1), some (.d (.list ((nms t).map PyData.int))), some (dR K [qs 0, qs 1]), some (dR K [qs 2, qs 3]), none, some (.d (bxd c)), none, none, none, none, none]) ⟨.inr rfl, .inr rfl, .inr rfl, .inl rfl, .inl rfl, .inr rfl, .inr rfl, .inr rfl, .inr rfl, .inl rfl, .inr rfl, .inr rfl, .inr rfl, .inr rfl, .inr rfl, trivial⟩ s_next) ⟨(zs, C3), ⟨o3, ob⟩, rfl, rfl⟩
  obtain ⟨zs, C2⟩ := a
  obtain ⟨o2, ob⟩ := hw
  replace o2 : DOk C2 := o2
  replace ob : Obs (IsX K Tp.C_Broad Tp.C_Tree) 4 p qs (tbc t (t.reverse.take _) 2) zs := ob
  rw [ln, Int.toNat_natCast, ← List.length_reverse, List.take_length] at ob
  refine s_loopN (α := DS) (fun _ C => DOk C) (fun _ => [some (.d (.list (ns.map PyData.int))), some (.r p), some (.k kv), none, none, some (.d (.list ((nms t).map PyData.int))), some (dR K [qs 0, qs 1]), some (dR K [qs 2, qs 3]), none, none, none, none, none, none, none]) (fun C => (bA K p C (.tab Tp.tabs) 4 zs)) C2 o2 (iw_ri (m := 3) (p_cons e_int a_nil) ⟨by decide, by decide⟩) rfl (fun i C3 hi o3 => ⟨_, g_name, .inl ?_⟩) fun C3 o3 => ?_
  · refine s_asgN (P := fun d L => ∃ b C', d = .d (bxd b) ∧ DOk C' ∧ Bg b ∧ L = (bA K p C' (.tab Tp.tabs) 4 zs)) (en_draw (R := RBoxN K) (ds := [.d (.list ((t.map (·.2)).map bxd))]) (C := C3) (Z := .tt) (a_cons (e_var rfl) (a_cons ?_ a_nil)) ⟨70, t.map (·.2), o3, by omega, fun b hb => ?_, by rw [List.length_map]; omega, .inl ⟨rfl, rfl⟩, rfl⟩ (nf_o ob nt) (fun _ _ _ => trivial) (fun z => z) fun d C' po => ?_) fun d L po => ?_
    · exact e_bxs (t := t) (by decide) (by omega) (e_var rfl) fun j z hz I' hI => e_kGet (e_var rfl) (e_var rfl) (wk.vl z (List.mem_of_getElem? hz))
    · obtain ⟨z, hz, rfl⟩ := List.mem_map.mp hb
      exact (wk.rg z hz).2.1
    · obtain ⟨oc, b, rfl, hb, hs⟩ := po
      exact ⟨b, C', rfl, oc, ⟨hb.mono (by omega), hs⟩, rfl⟩
    obtain ⟨b, C4, rfl, o4, bb, rfl⟩ := po
    obtain ⟨o5, v1, v2⟩ := vec_ok (C := C4) (m := 6) (n := 3) o4 (by decide) (by decide)
    refine s_seq (s_asg (e_draw (R := RVec) (ds := [.i 6]) (C := C4) (by walk_at "ev") ⟨_, rfl, o4, by decide, FR.sz_le (m := 3) (by decide) (by decide), rfl, rfl⟩ (nf_o ob nt))) ?_
    generalize (vecM C4 6).1 = o at *
    generalize (vecM C4 6).2 = C5 at *
    obtain ⟨o6, w1, w2⟩ := vec_ok (C := C5) (m := 8) (n := 4) o5 (by decide) (by decide)
    refine s_seq (s_asg (e_draw (R := RVec) (ds := [.i 8]) (C := C5) (by walk_at "ev") ⟨_, rfl, o5, by decide, FR.sz_le (m := 4) (by decide) (by decide), rfl, rfl⟩ (nf_o ob nt))) ?_
    generalize (vecM C5 8).1 = w at *
    generalize (vecM C5 8).2 = C6 at *
    have ry : RyOk o w := ⟨v1.mono (by decide), v2.mono (by decide), w1.mono (by decide), w2.mono (by decide)⟩
    obtain ⟨b1, l1⟩ := least_ex (μ := rayT o w) (enT t)
    obtain ⟨b2, l2⟩ := least_ex (μ := fun e => some (sqM e o)) (enT t)
    refine s_seq (s_asg (d := .d (.tuple ((srtI (metL (enT t) (ofB b))).map PyData.int))) (e_qry2 (RF := RNear) (i := 0) (d := .d (.tuple ((srtI (metL (enT t) (ofB b))).map PyData.int))) ob (by decide) (fun G H h => h.2.1) (fun _ _ _ => rfl) (fun _ _ => rfl) (e_ixR (qs := [qs 0, qs 1]) (j := 0) (e_var rfl) e_int rfl) (a_cons (e_var rfl) a_nil) (fun Is Z h => ⟨_, b, _, rfl, h, bb, by rw [tq_near (tq_c t 0)]⟩))) ?_
    refine s_lessN2 (ρ' := [some (.d (.list (ns.map PyData.int))), some (.r p), some (.k kv), none, none, some (.d (.list ((nms t).map PyData.int))), some (dR K [qs 0, qs 1]), some (dR K [qs 2, qs 3]), none, none, some (.i (i : Nat)), some (.d (bxd b)), some (.d (vcd o.1 o.2)), some (.d (vcd w.1 w.2)), some (.d (.tuple ((srtI (metL (enT t) (ofB b))).map PyData.int)))]) rfl ?_
    refine q_skip (b := false) (t_orF (t_is (t_not (t_B (e_is (e_allL (bs := List.replicate 4 true) (a_cons (e_is (e_lcR (qs := [qs 0, qs 1] ++ [qs 2, qs 3]) (e := fun _ => .bool true) (by decide) (e_catR (qs := [qs 0, qs 1]) (rs := [qs 2, qs 3]) (e_var rfl) (e_var rfl) (by simp) (by simp) (show 4 ≤ 100000 by decide)) (show 4 ≤ 100000 by decide) fun i q hq I' hI => by
      obtain ⟨hi4, rfl⟩ := four_at hq
      haveI : HasT Tp.tabs I' := ⟨fun G H h => (hI G H h).2.2⟩
      exact (e_is (p_eqD (x := (.tuple ((srtI (metL (enT t) (ofB b))).map PyData.int))) (y := (.tuple ((srtI (metL (enT t) (ofB b))).map PyData.int))) (e_qry2 (RF := RNear) (i := i) (d := .d (.tuple ((srtI (metL (enT t) (ofB b))).map PyData.int))) ob hi4 (fun G H h => (hI G H h).2.1) (fun _ _ _ => rfl) (fun _ _ => rfl) (e_var rfl) (a_cons (e_var rfl) a_nil) (fun Is Z h => ⟨_, b, _, rfl, h, bb, by rw [tq_near (tq_c t i)]⟩)) (e_var rfl) (shaped_ints _) (shaped_ints _)) (show Dat.b (PyData.eqv (.tuple ((srtI (metL (enT t) (ofB b))).map PyData.int)) (.tuple ((srtI (metL (enT t) (ofB b))).map PyData.int))) = .b true by rw [eqv_selfL (shaped_ints _)]))) (show Dat.d (.list (rowK (fun _ => true) (fun _ => PyData.bool true) 4)) = _ by rw [row_true])) a_nil)) (by rw [rep_true])))) rfl) (t_is (p_test (p_neD (x := (bestD b1)) (y := (bestD b1)) (e_qryT (R := RHit (IsT K Tp.C_Tree)) (i := 1) (d := .d (bestD b1)) ob (by decide) (by decide) (fun G H h => h.2.1) (fun _ _ => rfl) (e_ixR (qs := [qs 0, qs 1]) (j := 1) (e_var rfl) e_int rfl) (a_cons (e_var rfl) (a_cons (e_var rfl) a_nil)) (fun Z h => ⟨_, o, w, _, b1, rfl, h, ry, tq_least (tq_c t 1) l1, rfl⟩)) (e_qryT (R := RHit (IsT K Tp.C_Tree)) (i := 3) (d := .d (bestD b1)) ob (by decide) (by decide) (fun G H h => h.2.1) (fun _ _ => rfl) (e_ixR (qs := [qs 2, qs 3]) (j := 1) (e_var rfl) e_int rfl) (a_cons (e_var rfl) (a_cons (e_var rfl) a_nil)) (fun Z h => ⟨_, o, w, _, b1, rfl, h, ry, tq_least (tq_c t 3) l1, rfl⟩)) (shaped_best b1) (shaped_best b1))) (show (!PyData.eqv (bestD b1) (bestD b1)) = false by rw [eqv_selfL (shaped_best b1)]; rfl))) rfl ?_
    exact s_ne (ρ1 := [some (.d (.list (ns.map PyData.int))), some (.r p), some (.k kv), none, none, some (.d (.list ((nms t).map PyData.int))), some (dR K [qs 0, qs 1]), some (dR K [qs 2, qs 3]), none, none, none, none, none, none, none]) (J := (bA K p C6 (.tab Tp.tabs) 4 zs)) (s_lessN (ρ' := [some (.d (.list (ns.map PyData.int))), some (.r p), some (.k kv), none, none, some (.d (.list ((nms t).map PyData.int))), some (dR K [qs 0, qs 1]), some (dR K [qs 2, qs 3]), none, none, some (.i (i : Nat)), some (.d (bxd b)), some (.d (vcd o.1 o.2)), some (.d (vcd w.1 w.2)), some (.d (.tuple ((srtI (metL (enT t) (ofB b))).map PyData.int)))]) ⟨.inr rfl, .inr rfl, .inr rfl, .inr rfl, .inr rfl, .inr rfl, .inr rfl, .inr rfl, .inr rfl, .inr rfl, .inl rfl, .inl rfl, .inl rfl, .inl rfl, .inl rfl, trivial⟩ (q_ifF (b := false) (t_is (p_test (p_neD (x := (bestD b2)) (y := (bestD b2)) (e_qryT (R := RClose (IsT K Tp.C_Tree)) (i := 1) (d := .d (bestD b2)) ob (by decide) (by decide) (fun G H h => h.2.1) (fun _ _ => rfl) (e_ixR (qs := [qs 0, qs 1]) (j := 1) (e_var rfl) e_int rfl) (a_cons (e_var rfl) a_nil) (fun Z h => ⟨_, o, _, b2, rfl, h, ry.o1, ry.o2, tq_least (tq_c t 1) l2, rfl⟩)) (e_qryT (R := RClose (IsT K Tp.C_Tree)) (i := 3) (d := .d (bestD b2)) ob (by decide) (by decide) (fun G H h => h.2.1) (fun _ _ => rfl) (e_ixR (qs := [qs 2, qs 3]) (j := 1) (e_var rfl) e_int rfl) (a_cons (e_var rfl) a_nil) (fun Z h => ⟨_, o, _, b2, rfl, h, ry.o1, ry.o2, tq_least (tq_c t 3) l2, rfl⟩)) (shaped_best b2) (shaped_best b2))) (show (!PyData.eqv (bestD b2) (bestD b2)) = false by rw [eqv_selfL (shaped_best b2)]; rfl)) rfl s_next)) ⟨C6, o6, rfl, rfl⟩
  refine q_skip (b := false) (t_orF (t_is (t_not (t_B (e_is (e_allL (bs := List.replicate 4 true) (a_cons (e_is (e_lcR (qs := [qs 0, qs 1] ++ [qs 2, qs 3]) (e := fun _ => .bool true) (by decide) (e_catR (qs := [qs 0, qs 1]) (rs := [qs 2, qs 3]) (e_var rfl) (e_var rfl) (by simp) (by simp) (show 4 ≤ 100000 by decide)) (show 4 ≤ 100000 by decide) fun i q hq I' hI => by
      obtain ⟨hi4, rfl⟩ := four_at hq
      haveI : HasT Tp.tabs I' := ⟨fun G H h => (hI G H h).2.2⟩
      exact (e_is (p_eqD (x := (.tuple ((nms t).map PyData.int))) (y := (.tuple ((nms t).map PyData.int))) (e_nms2 (R := RNames) (i := i) (d := .d (.tuple ((nms t).map PyData.int))) ob hi4 (fun G H h => (hI G H h).2.1) (e_var rfl) (fun Is Z h => ⟨_, _, rfl, h, by rw [tq_nms (tq_c t i), wk.sr]⟩)) (e_tupOf (a_cons (e_var rfl) a_nil)) (shaped_ints _) (shaped_ints _)) (show Dat.b (PyData.eqv (.tuple ((nms t).map PyData.int)) (.tuple ((nms t).map PyData.int))) = .b true by rw [eqv_selfL (shaped_ints _)]))) (show Dat.d (.list (rowK (fun _ => true) (fun _ => PyData.bool true) 4)) = _ by rw [row_true])) a_nil)) (by rw [rep_true])))) rfl) (t_is (p_test (p_neD (x := (.tuple ((prsF t).map iiD))) (y := (.tuple ((prsF t).map iiD))) (e_qryB (R := RPrs (IsB K Tp.C_Broad)) (i := 0) (d := .t ((prsF t).map iiD)) ob (by decide) (by decide) (fun G H h => h.2.1) (fun _ _ _ => rfl) (e_ixR (qs := [qs 0, qs 1]) (j := 0) (e_var rfl) e_int rfl) a_nil (fun Z h => ⟨_, _, rfl, h, by rw [tq_prs wk.nd (tq_c t 0)]⟩)) (e_qryB (R := RPrs (IsB K Tp.C_Broad)) (i := 2) (d := .t ((prsF t).map iiD)) ob (by decide) (by decide) (fun G H h => h.2.1) (fun _ _ _ => rfl) (e_ixR (qs := [qs 2, qs 3]) (j := 0) (e_var rfl) e_int rfl) a_nil (fun Z h => ⟨_, _, rfl, h, by rw [tq_prs wk.nd (tq_c t 2)]⟩)) (shaped_iis _) (shaped_iis _))) (show (!PyData.eqv (.tuple ((prsF t).map iiD)) (.tuple ((prsF t).map iiD))) = false by rw [eqv_selfL (shaped_iis _)]; rfl))) rfl ?_
  refine s_rtT (p_ret (e_is (e_allL (bs := List.replicate 4 true) (a_cons (e_is (e_lcR (qs := [qs 0, qs 1] ++ [qs 2, qs 3]) (e := fun _ => .bool true) (by decide) (e_catR (qs := [qs 0, qs 1]) (rs := [qs 2, qs 3]) (e_var rfl) (e_var rfl) (by simp) (by simp) (show 4 ≤ 100000 by decide)) (show 4 ≤ 100000 by decide) fun i q hq I' hI => ?_) (show Dat.d (.list (rowK (fun _ => true) (fun _ => PyData.bool true) 4)) = _ by rw [row_true])) a_nil)) (by rw [rep_true])))
  obtain ⟨hi4, rfl⟩ := four_at hq
  refine e_is (e_allL (bs := List.replicate t.length true) (a_cons (e_is (e_lcV (wi := iList K _) (b := fun _ => true) (e := fun _ => .bool true) (iw_l (ds := (nms t).map PyData.int) (e_var rfl)) (by rw [ln]; omega) fun j hj => ?_) (by rw [ln, row_true])) a_nil)) (by rw [rep_true])
  rw [ln] at hj
  obtain ⟨z, hz⟩ : ∃ z, t[j]? = some z := ⟨_, List.getElem?_eq_getElem hj⟩
  have mz := List.mem_of_getElem? hz
  have ea : at0 ((nms t).map PyData.int) j = .int z.1 := by
    rw [at0_map (f := PyData.int) (z := z.1) (by unfold nms; rw [List.getElem?_map, hz]; rfl)]
  rw [ea]
  refine ⟨_, w_name (by decide), fun I2 _ => t_yes, fun _ I2 hI2 => ?_⟩
  exact (e_is (p_eqD (x := (bxd z.2)) (y := (bxd z.2)) (e_qry2 (RF := RBoxO) (i := i) (d := .d (bxd z.2)) ob hi4 (fun G H h => (hI G H (hI2 G H h)).2.1) (fun _ _ _ => rfl) (fun _ _ => rfl) (e_var rfl) (a_cons (e_var rfl) a_nil) (fun Is Z h => ⟨_, z.1, z.2, _, rfl, h, (tq_mem (tq_c t i)).mpr mz, rfl⟩)) (e_kGet (e_var rfl) (e_var rfl) (wk.vl z mz)) (shaped_bxL _) (shaped_bxL _)) (show Dat.b (PyData.eqv (bxd z.2) (bxd z.2)) = .b true by rw [eqv_selfL (shaped_bxL _)]))
end
theorem all_mk {w : World} {K : PySem.W.Frag} {h : Heap} {mg : Str → Option Value} {fa : Addr} {qq : Program} (X : K.In h) (G : h.Ns mainGlobals mg) (hfa : mg "law" = some (.ref fa)) (htab : ∀ (y : Str) (c P : Addr), ((PyProof.Rows.recsOf qq).any fun e => e.name == y) = true → PySem.W.tabIn K y = some (c, P) → PySem.W.CodeHd h c P ∧ h.get? P = some { cls := .none, data := .fields #[] }) {TS : List Addr} (hms : ∀ P ∈ TS, h.get? P = some { cls := .none, data := .fields #[] })
    {f0 f1 f2 f3 f4 f5 f6 f7 f8 f9 f10 f11 f12 f13 f14 f15 f16 f17 f18 f19 f20 f21 f22 f23 f24 f25 f26 f27 f28 f29 f30 f31 f32 f33 f34 f35 f36 f37 f38 f39 f40 f41 f42 f43 f44 f45 f46 f47 f48 f49 f50 f51 f52 f53 f54 f55 f56 f57 f58 f59 f60 f61 f62 f63 f64 f65 f66 f67 f68 : Addr} {od0 an0 od1 an1 od2 an2 od3 an3 od4 an4 od5 an5 od6 an6 od7 an7 od8 an8 od9 an9 od10 an10 od11 an11 od12 an12 od13 an13 od14 an14 od15 an15 od16 an16 od17 an17 od18 an18 od19 an19 od20 an20 od21 an21 od22 an22 od23 an23 od24 an24 od25 an25 od26 an26 od27 an27 od28 an28 od29 an29 od30 an30 od31 an31 od32 an32 od33 an33 od34 an34 od35 an35 od36 an36 od37 an37 od38 an38 od39 an39 od40 an40 od41 an41 od42 an42 od43 an43 od44 an44 od45 an45 od46 an46 od47 an47 od48 an48 od49 an49 od50 an50 od51 an51 od52 an52 od53 an53 od54 an54 od55 an55 od56 an56 od57 an57 od58 an58 od59 an59 od60 an60 od61 an61 od62 an62 od63 an63 od64 an64 od65 an65 od66 an66 od67 an67 od68 an68 : Option Addr} {sl0 sl1 sl2 sl3 sl4 sl5 sl6 sl7 sl8 sl9 sl10 sl11 sl12 sl13 sl14 sl15 sl16 sl17 sl18 sl19 sl20 sl21 sl22 sl23 sl24 sl25 sl26 sl27 sl28 sl29 sl30 sl31 sl32 sl33 sl34 sl35 sl36 sl37 sl38 sl39 sl40 sl41 sl42 sl43 sl44 sl45 sl46 sl47 sl48 sl49 sl50 sl51 sl52 sl53 sl54 sl55 sl56 sl57 sl58 sl59 sl60 sl61 sl62 sl63 sl64 sl65 sl66 sl67 sl68 : Array (Option Value)} {oc0 kV0 dc0 pm0 cd0 ct0 oc1 kV1 dc1 pm1 cd1 ct1 oc2 kV2 dc2 pm2 cd2 ct2 oc3 kV3 dc3 pm3 cd3 ct3 oc4 kV4 dc4 pm4 cd4 ct4 oc5 kV5 dc5 pm5 cd5 ct5 oc6 kV6 dc6 pm6 cd6 ct6 oc7 kV7 dc7 pm7 cd7 ct7 oc8 kV8 dc8 pm8 cd8 ct8 oc9 kV9 dc9 pm9 cd9 ct9 oc10 kV10 dc10 pm10 cd10 ct10 oc11 kV11 dc11 pm11 cd11 ct11 oc12 kV12 dc12 pm12 cd12 ct12 oc13 kV13 dc13 pm13 cd13 ct13 oc14 kV14 dc14 pm14 cd14 ct14 oc15 kV15 dc15 pm15 cd15 ct15 oc16 kV16 dc16 pm16 cd16 ct16 oc17 kV17 dc17 pm17 cd17 ct17 oc18 kV18 dc18 pm18 cd18 ct18 oc19 kV19 dc19 pm19 cd19 ct19 oc20 kV20 dc20 pm20 cd20 ct20 oc21 kV21 dc21 pm21 cd21 ct21 oc22 kV22 dc22 pm22 cd22 ct22 oc23 kV23 dc23 pm23 cd23 ct23 oc24 kV24 dc24 pm24 cd24 ct24 oc25 kV25 dc25 pm25 cd25 ct25 oc26 kV26 dc26 pm26 cd26 ct26 oc27 kV27 dc27 pm27 cd27 ct27 oc28 kV28 dc28 pm28 cd28 ct28 oc29 kV29 dc29 pm29 cd29 ct29 oc30 kV30 dc30 pm30 cd30 ct30 oc31 kV31 dc31 pm31 cd31 ct31 oc32 kV32 dc32 pm32 cd32 ct32 oc33 kV33 dc33 pm33 cd33 ct33 oc34 kV34 dc34 pm34 cd34 ct34 oc35 kV35 dc35 pm35 cd35 ct35 oc36 kV36 dc36 pm36 cd36 ct36 oc37 kV37 dc37 pm37 cd37 ct37 oc38 kV38 dc38 pm38 cd38 ct38 oc39 kV39 dc39 pm39 cd39 ct39 oc40 kV40 dc40 pm40 cd40 ct40 oc41 kV41 dc41 pm41 cd41 ct41 oc42 kV42 dc42 pm42 cd42 ct42 oc43 kV43 dc43 pm43 cd43 ct43 oc44 kV44 dc44 pm44 cd44 ct44 oc45 kV45 dc45 pm45 cd45 ct45 oc46 kV46 dc46 pm46 cd46 ct46 oc47 kV47 dc47 pm47 cd47 ct47 oc48 kV48 dc48 pm48 cd48 ct48 oc49 kV49 dc49 pm49 cd49 ct49 oc50 kV50 dc50 pm50 cd50 ct50 oc51 kV51 dc51 pm51 cd51 ct51 oc52 kV52 dc52 pm52 cd52 ct52 oc53 kV53 dc53 pm53 cd53 ct53 oc54 kV54 dc54 pm54 cd54 ct54 oc55 kV55 dc55 pm55 cd55 ct55 oc56 kV56 dc56 pm56 cd56 ct56 oc57 kV57 dc57 pm57 cd57 ct57 oc58 kV58 dc58 pm58 cd58 ct58 oc59 kV59 dc59 pm59 cd59 ct59 oc60 kV60 dc60 pm60 cd60 ct60 oc61 kV61 dc61 pm61 cd61 ct61 oc62 kV62 dc62 pm62 cd62 ct62 oc63 kV63 dc63 pm63 cd63 ct63 oc64 kV64 dc64 pm64 cd64 ct64 oc65 kV65 dc65 pm65 cd65 ct65 oc66 kV66 dc66 pm66 cd66 ct66 oc67 kV67 dc67 pm67 cd67 ct67 oc68 kV68 dc68 pm68 cd68 ct68 : Value}
    {CC_Broad CC_Tree : Addr}
    (aC_Broad : PySem.W.nsIn K mainGlobals "Broad" = some (some (.ref CC_Broad)))
    (aC_Tree : PySem.W.nsIn K mainGlobals "Tree" = some (some (.ref CC_Tree)))
    (a0 : PySem.W.nsIn K mainGlobals "_wall" = some (some (.ref f0))) (l0 : K.lookup f0 = some ⟨oc0, od0, .func (PySem.W.fnOf "_wall" "_wall" (defArgs s_wall) (defBody s_wall) (defScope s_wall) .none kV0 dc0 pm0 an0 cd0 ct0), sl0⟩) (c0 : PySem.W.codeIn K cd0 "_wall" = true) (k0 : PySem.W.keepIn K (.ref f0) = true)
    (a1 : PySem.W.nsIn K mainGlobals "plus" = some (some (.ref f1))) (l1 : K.lookup f1 = some ⟨oc1, od1, .func (PySem.W.fnOf "plus" "plus" (defArgs s_plus) (defBody s_plus) (defScope s_plus) .none kV1 dc1 pm1 an1 cd1 ct1), sl1⟩) (c1 : PySem.W.codeIn K cd1 "plus" = true) (k1 : PySem.W.keepIn K (.ref f1) = true)
    (a2 : PySem.W.nsIn K mainGlobals "minus" = some (some (.ref f2))) (l2 : K.lookup f2 = some ⟨oc2, od2, .func (PySem.W.fnOf "minus" "minus" (defArgs s_minus) (defBody s_minus) (defScope s_minus) .none kV2 dc2 pm2 an2 cd2 ct2), sl2⟩) (c2 : PySem.W.codeIn K cd2 "minus" = true) (k2 : PySem.W.keepIn K (.ref f2) = true)
    (a3 : PySem.W.nsIn K mainGlobals "times" = some (some (.ref f3))) (l3 : K.lookup f3 = some ⟨oc3, od3, .func (PySem.W.fnOf "times" "times" (defArgs s_times) (defBody s_times) (defScope s_times) .none kV3 dc3 pm3 an3 cd3 ct3), sl3⟩) (c3 : PySem.W.codeIn K cd3 "times" = true) (k3 : PySem.W.keepIn K (.ref f3) = true)
    (a4 : PySem.W.nsIn K mainGlobals "over" = some (some (.ref f4))) (l4 : K.lookup f4 = some ⟨oc4, od4, .func (PySem.W.fnOf "over" "over" (defArgs s_over) (defBody s_over) (defScope s_over) .none kV4 dc4 pm4 an4 cd4 ct4), sl4⟩) (c4 : PySem.W.codeIn K cd4 "over" = true) (k4 : PySem.W.keepIn K (.ref f4) = true)
    (a5 : PySem.W.nsIn K mainGlobals "compare" = some (some (.ref f5))) (l5 : K.lookup f5 = some ⟨oc5, od5, .func (PySem.W.fnOf "compare" "compare" (defArgs s_compare) (defBody s_compare) (defScope s_compare) .none kV5 dc5 pm5 an5 cd5 ct5), sl5⟩) (c5 : PySem.W.codeIn K cd5 "compare" = true) (k5 : PySem.W.keepIn K (.ref f5) = true)
    (a6 : PySem.W.nsIn K mainGlobals "least" = some (some (.ref f6))) (l6 : K.lookup f6 = some ⟨oc6, od6, .func (PySem.W.fnOf "least" "least" (defArgs s_least) (defBody s_least) (defScope s_least) .none kV6 dc6 pm6 an6 cd6 ct6), sl6⟩) (c6 : PySem.W.codeIn K cd6 "least" = true) (k6 : PySem.W.keepIn K (.ref f6) = true)
    (a7 : PySem.W.nsIn K mainGlobals "greatest" = some (some (.ref f7))) (l7 : K.lookup f7 = some ⟨oc7, od7, .func (PySem.W.fnOf "greatest" "greatest" (defArgs s_greatest) (defBody s_greatest) (defScope s_greatest) .none kV7 dc7 pm7 an7 cd7 ct7), sl7⟩) (c7 : PySem.W.codeIn K cd7 "greatest" = true) (k7 : PySem.W.keepIn K (.ref f7) = true)
    (a8 : PySem.W.nsIn K mainGlobals "dot" = some (some (.ref f8))) (l8 : K.lookup f8 = some ⟨oc8, od8, .func (PySem.W.fnOf "dot" "dot" (defArgs s_dot) (defBody s_dot) (defScope s_dot) .none kV8 dc8 pm8 an8 cd8 ct8), sl8⟩) (c8 : PySem.W.codeIn K cd8 "dot" = true) (k8 : PySem.W.keepIn K (.ref f8) = true)
    (a9 : PySem.W.nsIn K mainGlobals "is_sized" = some (some (.ref f9))) (l9 : K.lookup f9 = some ⟨oc9, od9, .func (PySem.W.fnOf "is_sized" "is_sized" (defArgs s_is_sized) (defBody s_is_sized) (defScope s_is_sized) .none kV9 dc9 pm9 an9 cd9 ct9), sl9⟩) (c9 : PySem.W.codeIn K cd9 "is_sized" = true) (k9 : PySem.W.keepIn K (.ref f9) = true)
    (a10 : PySem.W.nsIn K mainGlobals "check_box" = some (some (.ref f10))) (l10 : K.lookup f10 = some ⟨oc10, od10, .func (PySem.W.fnOf "check_box" "check_box" (defArgs s_check_box) (defBody s_check_box) (defScope s_check_box) .none kV10 dc10 pm10 an10 cd10 ct10), sl10⟩) (c10 : PySem.W.codeIn K cd10 "check_box" = true) (k10 : PySem.W.keepIn K (.ref f10) = true)
    (a11 : PySem.W.nsIn K mainGlobals "ends_of" = some (some (.ref f11))) (l11 : K.lookup f11 = some ⟨oc11, od11, .func (PySem.W.fnOf "ends_of" "ends_of" (defArgs s_ends_of) (defBody s_ends_of) (defScope s_ends_of) .none kV11 dc11 pm11 an11 cd11 ct11), sl11⟩) (c11 : PySem.W.codeIn K cd11 "ends_of" = true) (k11 : PySem.W.keepIn K (.ref f11) = true)
    (a12 : PySem.W.nsIn K mainGlobals "gap_of_ends" = some (some (.ref f12))) (l12 : K.lookup f12 = some ⟨oc12, od12, .func (PySem.W.fnOf "gap_of_ends" "gap_of_ends" (defArgs s_gap_of_ends) (defBody s_gap_of_ends) (defScope s_gap_of_ends) .none kV12 dc12 pm12 an12 cd12 ct12), sl12⟩) (c12 : PySem.W.codeIn K cd12 "gap_of_ends" = true) (k12 : PySem.W.keepIn K (.ref f12) = true)
    (a13 : PySem.W.nsIn K mainGlobals "ends_meet" = some (some (.ref f13))) (l13 : K.lookup f13 = some ⟨oc13, od13, .func (PySem.W.fnOf "ends_meet" "ends_meet" (defArgs s_ends_meet) (defBody s_ends_meet) (defScope s_ends_meet) .none kV13 dc13 pm13 an13 cd13 ct13), sl13⟩) (c13 : PySem.W.codeIn K cd13 "ends_meet" = true) (k13 : PySem.W.keepIn K (.ref f13) = true)
    (a14 : PySem.W.nsIn K mainGlobals "hull_of_ends" = some (some (.ref f14))) (l14 : K.lookup f14 = some ⟨oc14, od14, .func (PySem.W.fnOf "hull_of_ends" "hull_of_ends" (defArgs s_hull_of_ends) (defBody s_hull_of_ends) (defScope s_hull_of_ends) .none kV14 dc14 pm14 an14 cd14 ct14), sl14⟩) (c14 : PySem.W.codeIn K cd14 "hull_of_ends" = true) (k14 : PySem.W.keepIn K (.ref f14) = true)
    (a15 : PySem.W.nsIn K mainGlobals "point_ends" = some (some (.ref f15))) (l15 : K.lookup f15 = some ⟨oc15, od15, .func (PySem.W.fnOf "point_ends" "point_ends" (defArgs s_point_ends) (defBody s_point_ends) (defScope s_point_ends) .none kV15 dc15 pm15 an15 cd15 ct15), sl15⟩) (c15 : PySem.W.codeIn K cd15 "point_ends" = true) (k15 : PySem.W.keepIn K (.ref f15) = true)
    (a16 : PySem.W.nsIn K mainGlobals "leaf_of" = some (some (.ref f16))) (l16 : K.lookup f16 = some ⟨oc16, od16, .func (PySem.W.fnOf "leaf_of" "leaf_of" (defArgs s_leaf_of) (defBody s_leaf_of) (defScope s_leaf_of) .none kV16 dc16 pm16 an16 cd16 ct16), sl16⟩) (c16 : PySem.W.codeIn K cd16 "leaf_of" = true) (k16 : PySem.W.keepIn K (.ref f16) = true)
    (a17 : PySem.W.nsIn K mainGlobals "branch_of" = some (some (.ref f17))) (l17 : K.lookup f17 = some ⟨oc17, od17, .func (PySem.W.fnOf "branch_of" "branch_of" (defArgs s_branch_of) (defBody s_branch_of) (defScope s_branch_of) .none kV17 dc17 pm17 an17 cd17 ct17), sl17⟩) (c17 : PySem.W.codeIn K cd17 "branch_of" = true) (k17 : PySem.W.keepIn K (.ref f17) = true)
    (a18 : PySem.W.nsIn K mainGlobals "balanced" = some (some (.ref f18))) (l18 : K.lookup f18 = some ⟨oc18, od18, .func (PySem.W.fnOf "balanced" "balanced" (defArgs s_balanced) (defBody s_balanced) (defScope s_balanced) .none kV18 dc18 pm18 an18 cd18 ct18), sl18⟩) (c18 : PySem.W.codeIn K cd18 "balanced" = true) (k18 : PySem.W.keepIn K (.ref f18) = true)
    (a19 : PySem.W.nsIn K mainGlobals "girth" = some (some (.ref f19))) (l19 : K.lookup f19 = some ⟨oc19, od19, .func (PySem.W.fnOf "girth" "girth" (defArgs s_girth) (defBody s_girth) (defScope s_girth) .none kV19 dc19 pm19 an19 cd19 ct19), sl19⟩) (c19 : PySem.W.codeIn K cd19 "girth" = true) (k19 : PySem.W.keepIn K (.ref f19) = true)
    (a20 : PySem.W.nsIn K mainGlobals "growth" = some (some (.ref f20))) (l20 : K.lookup f20 = some ⟨oc20, od20, .func (PySem.W.fnOf "growth" "growth" (defArgs s_growth) (defBody s_growth) (defScope s_growth) .none kV20 dc20 pm20 an20 cd20 ct20), sl20⟩) (c20 : PySem.W.codeIn K cd20 "growth" = true) (k20 : PySem.W.keepIn K (.ref f20) = true)
    (a21 : PySem.W.nsIn K mainGlobals "with_leaf" = some (some (.ref f21))) (l21 : K.lookup f21 = some ⟨oc21, od21, .func (PySem.W.fnOf "with_leaf" "with_leaf" (defArgs s_with_leaf) (defBody s_with_leaf) (defScope s_with_leaf) .none kV21 dc21 pm21 an21 cd21 ct21), sl21⟩) (c21 : PySem.W.codeIn K cd21 "with_leaf" = true) (k21 : PySem.W.keepIn K (.ref f21) = true)
    (a22 : PySem.W.nsIn K mainGlobals "without_leaf" = some (some (.ref f22))) (l22 : K.lookup f22 = some ⟨oc22, od22, .func (PySem.W.fnOf "without_leaf" "without_leaf" (defArgs s_without_leaf) (defBody s_without_leaf) (defScope s_without_leaf) .none kV22 dc22 pm22 an22 cd22 ct22), sl22⟩) (c22 : PySem.W.codeIn K cd22 "without_leaf" = true) (k22 : PySem.W.keepIn K (.ref f22) = true)
    (a23 : PySem.W.nsIn K mainGlobals "names_meeting" = some (some (.ref f23))) (l23 : K.lookup f23 = some ⟨oc23, od23, .func (PySem.W.fnOf "names_meeting" "names_meeting" (defArgs s_names_meeting) (defBody s_names_meeting) (defScope s_names_meeting) .none kV23 dc23 pm23 an23 cd23 ct23), sl23⟩) (c23 : PySem.W.codeIn K cd23 "names_meeting" = true) (k23 : PySem.W.keepIn K (.ref f23) = true)
    (a24 : PySem.W.nsIn K mainGlobals "least_leaf" = some (some (.ref f24))) (l24 : K.lookup f24 = some ⟨oc24, od24, .func (PySem.W.fnOf "least_leaf" "least_leaf" (defArgs s_least_leaf) (defBody s_least_leaf) (defScope s_least_leaf) .none kV24 dc24 pm24 an24 cd24 ct24), sl24⟩) (c24 : PySem.W.codeIn K cd24 "least_leaf" = true) (k24 : PySem.W.keepIn K (.ref f24) = true)
    (a25 : PySem.W.nsIn K mainGlobals "nodes_from" = some (some (.ref f25))) (l25 : K.lookup f25 = some ⟨oc25, od25, .func (PySem.W.fnOf "nodes_from" "nodes_from" (defArgs s_nodes_from) (defBody s_nodes_from) (defScope s_nodes_from) .none kV25 dc25 pm25 an25 cd25 ct25), sl25⟩) (c25 : PySem.W.codeIn K cd25 "nodes_from" = true) (k25 : PySem.W.keepIn K (.ref f25) = true)
    (a26 : PySem.W.nsIn K mainGlobals "check_unused" = some (some (.ref f26))) (l26 : K.lookup f26 = some ⟨oc26, od26, .func (PySem.W.fnOf "check_unused" "check_unused" (defArgs s_check_unused) (defBody s_check_unused) (defScope s_check_unused) .none kV26 dc26 pm26 an26 cd26 ct26), sl26⟩) (c26 : PySem.W.codeIn K cd26 "check_unused" = true) (k26 : PySem.W.keepIn K (.ref f26) = true)
    (a27 : PySem.W.nsIn K mainGlobals "check_used" = some (some (.ref f27))) (l27 : K.lookup f27 = some ⟨oc27, od27, .func (PySem.W.fnOf "check_used" "check_used" (defArgs s_check_used) (defBody s_check_used) (defScope s_check_used) .none kV27 dc27 pm27 an27 cd27 ct27), sl27⟩) (c27 : PySem.W.codeIn K cd27 "check_used" = true) (k27 : PySem.W.keepIn K (.ref f27) = true)
    (a28 : PySem.W.findIn K (.ref CC_Broad) "__init__" = some (some (.ref f28))) (i28 : PySem.W.isFn K (.ref f28) = true) (l28 : K.lookup f28 = some ⟨oc28, od28, .func (PySem.W.fnOf "__init__" "Broad.__init__" (defArgs s_Broad_init) (defBody s_Broad_init) (defScope s_Broad_init) .none kV28 dc28 pm28 an28 cd28 ct28), sl28⟩) (c28 : PySem.W.codeIn K cd28 "Broad.__init__" = true) (k28 : PySem.W.keepIn K (.ref f28) = true)
    {pp_Broad_names : Addr} {pz_Broad_names : List Value} (pw_Broad_names : PySem.W.findIn K (.ref CC_Broad) "names" = some (some (.ref pp_Broad_names))) (pg_Broad_names : PySem.W.specialIn K (.ref pp_Broad_names) "__get__" = some (some (.builtin "property.__get__"))) (pt_Broad_names : PySem.W.takesIn K (.ref pp_Broad_names) = some true) (pc_Broad_names : PySem.W.recIn K pp_Broad_names "property" = some (.ref f29 :: pz_Broad_names)) (l29 : K.lookup f29 = some ⟨oc29, od29, .func (PySem.W.fnOf "names" "Broad.names" (defArgs s_Broad_names) (defBody s_Broad_names) (defScope s_Broad_names) .none kV29 dc29 pm29 an29 cd29 ct29), sl29⟩) (c29 : PySem.W.codeIn K cd29 "Broad.names" = true) (k29 : PySem.W.keepIn K (.ref f29) = true)
    (a30 : PySem.W.findIn K (.ref CC_Broad) "add" = some (some (.ref f30))) (i30 : PySem.W.isFn K (.ref f30) = true) (l30 : K.lookup f30 = some ⟨oc30, od30, .func (PySem.W.fnOf "add" "Broad.add" (defArgs s_Broad_add) (defBody s_Broad_add) (defScope s_Broad_add) .none kV30 dc30 pm30 an30 cd30 ct30), sl30⟩) (c30 : PySem.W.codeIn K cd30 "Broad.add" = true) (k30 : PySem.W.keepIn K (.ref f30) = true)
    (a31 : PySem.W.findIn K (.ref CC_Broad) "move" = some (some (.ref f31))) (i31 : PySem.W.isFn K (.ref f31) = true) (l31 : K.lookup f31 = some ⟨oc31, od31, .func (PySem.W.fnOf "move" "Broad.move" (defArgs s_Broad_move) (defBody s_Broad_move) (defScope s_Broad_move) .none kV31 dc31 pm31 an31 cd31 ct31), sl31⟩) (c31 : PySem.W.codeIn K cd31 "Broad.move" = true) (k31 : PySem.W.keepIn K (.ref f31) = true)
    (a32 : PySem.W.findIn K (.ref CC_Broad) "remove" = some (some (.ref f32))) (i32 : PySem.W.isFn K (.ref f32) = true) (l32 : K.lookup f32 = some ⟨oc32, od32, .func (PySem.W.fnOf "remove" "Broad.remove" (defArgs s_Broad_remove) (defBody s_Broad_remove) (defScope s_Broad_remove) .none kV32 dc32 pm32 an32 cd32 ct32), sl32⟩) (c32 : PySem.W.codeIn K cd32 "Broad.remove" = true) (k32 : PySem.W.keepIn K (.ref f32) = true)
    (a33 : PySem.W.findIn K (.ref CC_Broad) "pairs" = some (some (.ref f33))) (i33 : PySem.W.isFn K (.ref f33) = true) (l33 : K.lookup f33 = some ⟨oc33, od33, .func (PySem.W.fnOf "pairs" "Broad.pairs" (defArgs s_Broad_pairs) (defBody s_Broad_pairs) (defScope s_Broad_pairs) .none kV33 dc33 pm33 an33 cd33 ct33), sl33⟩) (c33 : PySem.W.codeIn K cd33 "Broad.pairs" = true) (k33 : PySem.W.keepIn K (.ref f33) = true)
    (a34 : PySem.W.findIn K (.ref CC_Broad) "near" = some (some (.ref f34))) (i34 : PySem.W.isFn K (.ref f34) = true) (l34 : K.lookup f34 = some ⟨oc34, od34, .func (PySem.W.fnOf "near" "Broad.near" (defArgs s_Broad_near) (defBody s_Broad_near) (defScope s_Broad_near) .none kV34 dc34 pm34 an34 cd34 ct34), sl34⟩) (c34 : PySem.W.codeIn K cd34 "Broad.near" = true) (k34 : PySem.W.keepIn K (.ref f34) = true)
    (a35 : PySem.W.findIn K (.ref CC_Broad) "box_of" = some (some (.ref f35))) (i35 : PySem.W.isFn K (.ref f35) = true) (l35 : K.lookup f35 = some ⟨oc35, od35, .func (PySem.W.fnOf "box_of" "Broad.box_of" (defArgs s_Broad_box_of) (defBody s_Broad_box_of) (defScope s_Broad_box_of) .none kV35 dc35 pm35 an35 cd35 ct35), sl35⟩) (c35 : PySem.W.codeIn K cd35 "Broad.box_of" = true) (k35 : PySem.W.keepIn K (.ref f35) = true)
    (a36 : PySem.W.findIn K (.ref CC_Broad) "_meeting" = some (some (.ref f36))) (i36 : PySem.W.isFn K (.ref f36) = true) (l36 : K.lookup f36 = some ⟨oc36, od36, .func (PySem.W.fnOf "_meeting" "Broad._meeting" (defArgs s_Broad_meeting) (defBody s_Broad_meeting) (defScope s_Broad_meeting) .none kV36 dc36 pm36 an36 cd36 ct36), sl36⟩) (c36 : PySem.W.codeIn K cd36 "Broad._meeting" = true) (k36 : PySem.W.keepIn K (.ref f36) = true)
    (a37 : PySem.W.findIn K (.ref CC_Broad) "_put" = some (some (.ref f37))) (i37 : PySem.W.isFn K (.ref f37) = true) (l37 : K.lookup f37 = some ⟨oc37, od37, .func (PySem.W.fnOf "_put" "Broad._put" (defArgs s_Broad_put) (defBody s_Broad_put) (defScope s_Broad_put) .none kV37 dc37 pm37 an37 cd37 ct37), sl37⟩) (c37 : PySem.W.codeIn K cd37 "Broad._put" = true) (k37 : PySem.W.keepIn K (.ref f37) = true)
    (a38 : PySem.W.findIn K (.ref CC_Broad) "_take" = some (some (.ref f38))) (i38 : PySem.W.isFn K (.ref f38) = true) (l38 : K.lookup f38 = some ⟨oc38, od38, .func (PySem.W.fnOf "_take" "Broad._take" (defArgs s_Broad_take) (defBody s_Broad_take) (defScope s_Broad_take) .none kV38 dc38 pm38 an38 cd38 ct38), sl38⟩) (c38 : PySem.W.codeIn K cd38 "Broad._take" = true) (k38 : PySem.W.keepIn K (.ref f38) = true)
    (a39 : PySem.W.nsIn K mainGlobals "passing" = some (some (.ref f39))) (l39 : K.lookup f39 = some ⟨oc39, od39, .func (PySem.W.fnOf "passing" "passing" (defArgs s_passing) (defBody s_passing) (defScope s_passing) .none kV39 dc39 pm39 an39 cd39 ct39), sl39⟩) (c39 : PySem.W.codeIn K cd39 "passing" = true) (k39 : PySem.W.keepIn K (.ref f39) = true)
    (a40 : PySem.W.nsIn K mainGlobals "common_span" = some (some (.ref f40))) (l40 : K.lookup f40 = some ⟨oc40, od40, .func (PySem.W.fnOf "common_span" "common_span" (defArgs s_common_span) (defBody s_common_span) (defScope s_common_span) .none kV40 dc40 pm40 an40 cd40 ct40), sl40⟩) (c40 : PySem.W.codeIn K cd40 "common_span" = true) (k40 : PySem.W.keepIn K (.ref f40) = true)
    (a41 : PySem.W.nsIn K mainGlobals "stretch_within" = some (some (.ref f41))) (l41 : K.lookup f41 = some ⟨oc41, od41, .func (PySem.W.fnOf "stretch_within" "stretch_within" (defArgs s_stretch_within) (defBody s_stretch_within) (defScope s_stretch_within) .none kV41 dc41 pm41 an41 cd41 ct41), sl41⟩) (c41 : PySem.W.codeIn K cd41 "stretch_within" = true) (k41 : PySem.W.keepIn K (.ref f41) = true)
    (a42 : PySem.W.nsIn K mainGlobals "time_within" = some (some (.ref f42))) (l42 : K.lookup f42 = some ⟨oc42, od42, .func (PySem.W.fnOf "time_within" "time_within" (defArgs s_time_within) (defBody s_time_within) (defScope s_time_within) .none kV42 dc42 pm42 an42 cd42 ct42), sl42⟩) (c42 : PySem.W.codeIn K cd42 "time_within" = true) (k42 : PySem.W.keepIn K (.ref f42) = true)
    (a43 : PySem.W.findIn K (.ref CC_Tree) "__init__" = some (some (.ref f43))) (i43 : PySem.W.isFn K (.ref f43) = true) (l43 : K.lookup f43 = some ⟨oc43, od43, .func (PySem.W.fnOf "__init__" "Tree.__init__" (defArgs s_Tree_init) (defBody s_Tree_init) (defScope s_Tree_init) .none kV43 dc43 pm43 an43 cd43 ct43), sl43⟩) (c43 : PySem.W.codeIn K cd43 "Tree.__init__" = true) (k43 : PySem.W.keepIn K (.ref f43) = true)
    {pp_Tree_names : Addr} {pz_Tree_names : List Value} (pw_Tree_names : PySem.W.findIn K (.ref CC_Tree) "names" = some (some (.ref pp_Tree_names))) (pg_Tree_names : PySem.W.specialIn K (.ref pp_Tree_names) "__get__" = some (some (.builtin "property.__get__"))) (pt_Tree_names : PySem.W.takesIn K (.ref pp_Tree_names) = some true) (pc_Tree_names : PySem.W.recIn K pp_Tree_names "property" = some (.ref f44 :: pz_Tree_names)) (l44 : K.lookup f44 = some ⟨oc44, od44, .func (PySem.W.fnOf "names" "Tree.names" (defArgs s_Tree_names) (defBody s_Tree_names) (defScope s_Tree_names) .none kV44 dc44 pm44 an44 cd44 ct44), sl44⟩) (c44 : PySem.W.codeIn K cd44 "Tree.names" = true) (k44 : PySem.W.keepIn K (.ref f44) = true)
    (a45 : PySem.W.findIn K (.ref CC_Tree) "add" = some (some (.ref f45))) (i45 : PySem.W.isFn K (.ref f45) = true) (l45 : K.lookup f45 = some ⟨oc45, od45, .func (PySem.W.fnOf "add" "Tree.add" (defArgs s_Tree_add) (defBody s_Tree_add) (defScope s_Tree_add) .none kV45 dc45 pm45 an45 cd45 ct45), sl45⟩) (c45 : PySem.W.codeIn K cd45 "Tree.add" = true) (k45 : PySem.W.keepIn K (.ref f45) = true)
    (a46 : PySem.W.findIn K (.ref CC_Tree) "move" = some (some (.ref f46))) (i46 : PySem.W.isFn K (.ref f46) = true) (l46 : K.lookup f46 = some ⟨oc46, od46, .func (PySem.W.fnOf "move" "Tree.move" (defArgs s_Tree_move) (defBody s_Tree_move) (defScope s_Tree_move) .none kV46 dc46 pm46 an46 cd46 ct46), sl46⟩) (c46 : PySem.W.codeIn K cd46 "Tree.move" = true) (k46 : PySem.W.keepIn K (.ref f46) = true)
    (a47 : PySem.W.findIn K (.ref CC_Tree) "remove" = some (some (.ref f47))) (i47 : PySem.W.isFn K (.ref f47) = true) (l47 : K.lookup f47 = some ⟨oc47, od47, .func (PySem.W.fnOf "remove" "Tree.remove" (defArgs s_Tree_remove) (defBody s_Tree_remove) (defScope s_Tree_remove) .none kV47 dc47 pm47 an47 cd47 ct47), sl47⟩) (c47 : PySem.W.codeIn K cd47 "Tree.remove" = true) (k47 : PySem.W.keepIn K (.ref f47) = true)
    (a48 : PySem.W.findIn K (.ref CC_Tree) "box_of" = some (some (.ref f48))) (i48 : PySem.W.isFn K (.ref f48) = true) (l48 : K.lookup f48 = some ⟨oc48, od48, .func (PySem.W.fnOf "box_of" "Tree.box_of" (defArgs s_Tree_box_of) (defBody s_Tree_box_of) (defScope s_Tree_box_of) .none kV48 dc48 pm48 an48 cd48 ct48), sl48⟩) (c48 : PySem.W.codeIn K cd48 "Tree.box_of" = true) (k48 : PySem.W.keepIn K (.ref f48) = true)
    (a49 : PySem.W.findIn K (.ref CC_Tree) "near" = some (some (.ref f49))) (i49 : PySem.W.isFn K (.ref f49) = true) (l49 : K.lookup f49 = some ⟨oc49, od49, .func (PySem.W.fnOf "near" "Tree.near" (defArgs s_Tree_near) (defBody s_Tree_near) (defScope s_Tree_near) .none kV49 dc49 pm49 an49 cd49 ct49), sl49⟩) (c49 : PySem.W.codeIn K cd49 "Tree.near" = true) (k49 : PySem.W.keepIn K (.ref f49) = true)
    (a50 : PySem.W.findIn K (.ref CC_Tree) "hit" = some (some (.ref f50))) (i50 : PySem.W.isFn K (.ref f50) = true) (l50 : K.lookup f50 = some ⟨oc50, od50, .func (PySem.W.fnOf "hit" "Tree.hit" (defArgs s_Tree_hit) (defBody s_Tree_hit) (defScope s_Tree_hit) .none kV50 dc50 pm50 an50 cd50 ct50), sl50⟩) (c50 : PySem.W.codeIn K cd50 "Tree.hit" = true) (k50 : PySem.W.keepIn K (.ref f50) = true)
    (a51 : PySem.W.findIn K (.ref CC_Tree) "closest" = some (some (.ref f51))) (i51 : PySem.W.isFn K (.ref f51) = true) (l51 : K.lookup f51 = some ⟨oc51, od51, .func (PySem.W.fnOf "closest" "Tree.closest" (defArgs s_Tree_closest) (defBody s_Tree_closest) (defScope s_Tree_closest) .none kV51 dc51 pm51 an51 cd51 ct51), sl51⟩) (c51 : PySem.W.codeIn K cd51 "Tree.closest" = true) (k51 : PySem.W.keepIn K (.ref f51) = true)
    (a52 : PySem.W.findIn K (.ref CC_Tree) "_put" = some (some (.ref f52))) (i52 : PySem.W.isFn K (.ref f52) = true) (l52 : K.lookup f52 = some ⟨oc52, od52, .func (PySem.W.fnOf "_put" "Tree._put" (defArgs s_Tree_put) (defBody s_Tree_put) (defScope s_Tree_put) .none kV52 dc52 pm52 an52 cd52 ct52), sl52⟩) (c52 : PySem.W.codeIn K cd52 "Tree._put" = true) (k52 : PySem.W.keepIn K (.ref f52) = true)
    (a53 : PySem.W.findIn K (.ref CC_Tree) "_take" = some (some (.ref f53))) (i53 : PySem.W.isFn K (.ref f53) = true) (l53 : K.lookup f53 = some ⟨oc53, od53, .func (PySem.W.fnOf "_take" "Tree._take" (defArgs s_Tree_take) (defBody s_Tree_take) (defScope s_Tree_take) .none kV53 dc53 pm53 an53 cd53 ct53), sl53⟩) (c53 : PySem.W.codeIn K cd53 "Tree._take" = true) (k53 : PySem.W.keepIn K (.ref f53) = true)
    (a54 : PySem.W.nsIn K mainGlobals "square_of_distance" = some (some (.ref f54))) (l54 : K.lookup f54 = some ⟨oc54, od54, .func (PySem.W.fnOf "square_of_distance" "square_of_distance" (defArgs s_square_of_distance) (defBody s_square_of_distance) (defScope s_square_of_distance) .none kV54 dc54 pm54 an54 cd54 ct54), sl54⟩) (c54 : PySem.W.codeIn K cd54 "square_of_distance" = true) (k54 : PySem.W.keepIn K (.ref f54) = true)
    (a55 : PySem.W.nsIn K mainGlobals "_law_begin" = some (some (.ref f55))) (l55 : K.lookup f55 = some ⟨oc55, od55, .func (PySem.W.fnOf "_law_begin" "_law_begin" (defArgs s_law_begin) (defBody s_law_begin) (defScope s_law_begin) .none kV55 dc55 pm55 an55 cd55 ct55), sl55⟩) (c55 : PySem.W.codeIn K cd55 "_law_begin" = true) (k55 : PySem.W.keepIn K (.ref f55) = true)
    (a56 : PySem.W.nsIn K mainGlobals "_law_take" = some (some (.ref f56))) (l56 : K.lookup f56 = some ⟨oc56, od56, .func (PySem.W.fnOf "_law_take" "_law_take" (defArgs s_law_take) (defBody s_law_take) (defScope s_law_take) .none kV56 dc56 pm56 an56 cd56 ct56), sl56⟩) (c56 : PySem.W.codeIn K cd56 "_law_take" = true) (k56 : PySem.W.keepIn K (.ref f56) = true)
    (a57 : PySem.W.nsIn K mainGlobals "_law_signed" = some (some (.ref f57))) (l57 : K.lookup f57 = some ⟨oc57, od57, .func (PySem.W.fnOf "_law_signed" "_law_signed" (defArgs s_law_signed) (defBody s_law_signed) (defScope s_law_signed) .none kV57 dc57 pm57 an57 cd57 ct57), sl57⟩) (c57 : PySem.W.codeIn K cd57 "_law_signed" = true) (k57 : PySem.W.keepIn K (.ref f57) = true)
    (a58 : PySem.W.nsIn K mainGlobals "_law_gcd" = some (some (.ref f58))) (l58 : K.lookup f58 = some ⟨oc58, od58, .func (PySem.W.fnOf "_law_gcd" "_law_gcd" (defArgs s_law_gcd) (defBody s_law_gcd) (defScope s_law_gcd) .none kV58 dc58 pm58 an58 cd58 ct58), sl58⟩) (c58 : PySem.W.codeIn K cd58 "_law_gcd" = true) (k58 : PySem.W.keepIn K (.ref f58) = true)
    (a59 : PySem.W.nsIn K mainGlobals "_law_f" = some (some (.ref f59))) (l59 : K.lookup f59 = some ⟨oc59, od59, .func (PySem.W.fnOf "_law_f" "_law_f" (defArgs s_law_f) (defBody s_law_f) (defScope s_law_f) .none kV59 dc59 pm59 an59 cd59 ct59), sl59⟩) (c59 : PySem.W.codeIn K cd59 "_law_f" = true) (k59 : PySem.W.keepIn K (.ref f59) = true)
    (a60 : PySem.W.nsIn K mainGlobals "_law_plus" = some (some (.ref f60))) (l60 : K.lookup f60 = some ⟨oc60, od60, .func (PySem.W.fnOf "_law_plus" "_law_plus" (defArgs s_law_plus) (defBody s_law_plus) (defScope s_law_plus) .none kV60 dc60 pm60 an60 cd60 ct60), sl60⟩) (c60 : PySem.W.codeIn K cd60 "_law_plus" = true) (k60 : PySem.W.keepIn K (.ref f60) = true)
    (a61 : PySem.W.nsIn K mainGlobals "_law_minus" = some (some (.ref f61))) (l61 : K.lookup f61 = some ⟨oc61, od61, .func (PySem.W.fnOf "_law_minus" "_law_minus" (defArgs s_law_minus) (defBody s_law_minus) (defScope s_law_minus) .none kV61 dc61 pm61 an61 cd61 ct61), sl61⟩) (c61 : PySem.W.codeIn K cd61 "_law_minus" = true) (k61 : PySem.W.keepIn K (.ref f61) = true)
    (a62 : PySem.W.nsIn K mainGlobals "_law_part" = some (some (.ref f62))) (l62 : K.lookup f62 = some ⟨oc62, od62, .func (PySem.W.fnOf "_law_part" "_law_part" (defArgs s_law_part) (defBody s_law_part) (defScope s_law_part) .none kV62 dc62 pm62 an62 cd62 ct62), sl62⟩) (c62 : PySem.W.codeIn K cd62 "_law_part" = true) (k62 : PySem.W.keepIn K (.ref f62) = true)
    (a63 : PySem.W.nsIn K mainGlobals "_law_vector" = some (some (.ref f63))) (l63 : K.lookup f63 = some ⟨oc63, od63, .func (PySem.W.fnOf "_law_vector" "_law_vector" (defArgs s_law_vector) (defBody s_law_vector) (defScope s_law_vector) .none kV63 dc63 pm63 an63 cd63 ct63), sl63⟩) (c63 : PySem.W.codeIn K cd63 "_law_vector" = true) (k63 : PySem.W.keepIn K (.ref f63) = true)
    (a64 : PySem.W.nsIn K mainGlobals "_law_high" = some (some (.ref f64))) (l64 : K.lookup f64 = some ⟨oc64, od64, .func (PySem.W.fnOf "_law_high" "_law_high" (defArgs s_law_high) (defBody s_law_high) (defScope s_law_high) .none kV64 dc64 pm64 an64 cd64 ct64), sl64⟩) (c64 : PySem.W.codeIn K cd64 "_law_high" = true) (k64 : PySem.W.keepIn K (.ref f64) = true)
    (a65 : PySem.W.nsIn K mainGlobals "_law_size" = some (some (.ref f65))) (l65 : K.lookup f65 = some ⟨oc65, od65, .func (PySem.W.fnOf "_law_size" "_law_size" (defArgs s_law_size) (defBody s_law_size) (defScope s_law_size) .none kV65 dc65 pm65 an65 cd65 ct65), sl65⟩) (c65 : PySem.W.codeIn K cd65 "_law_size" = true) (k65 : PySem.W.keepIn K (.ref f65) = true)
    (a66 : PySem.W.nsIn K mainGlobals "_law_beside" = some (some (.ref f66))) (l66 : K.lookup f66 = some ⟨oc66, od66, .func (PySem.W.fnOf "_law_beside" "_law_beside" (defArgs s_law_beside) (defBody s_law_beside) (defScope s_law_beside) .none kV66 dc66 pm66 an66 cd66 ct66), sl66⟩) (c66 : PySem.W.codeIn K cd66 "_law_beside" = true) (k66 : PySem.W.keepIn K (.ref f66) = true)
    (a67 : PySem.W.nsIn K mainGlobals "_law_box" = some (some (.ref f67))) (l67 : K.lookup f67 = some ⟨oc67, od67, .func (PySem.W.fnOf "_law_box" "_law_box" (defArgs s_law_box) (defBody s_law_box) (defScope s_law_box) .none kV67 dc67 pm67 an67 cd67 ct67), sl67⟩) (c67 : PySem.W.codeIn K cd67 "_law_box" = true) (k67 : PySem.W.keepIn K (.ref f67) = true)
    (a68 : PySem.W.nsIn K mainGlobals "law" = some (some (.ref f68))) (l68 : K.lookup f68 = some ⟨oc68, od68, .func (PySem.W.fnOf "law" "law" (defArgs s_law) (defBody s_law) (defScope s_law) .none kV68 dc68 pm68 an68 cd68 ct68), sl68⟩) (c68 : PySem.W.codeIn K cd68 "law" = true) (k68 : PySem.W.keepIn K (.ref f68) = true)
    {tca_ends_meet tpa_ends_meet : Addr} {uc_ends_meet : Value} {ud_ends_meet : Option Addr} {uv_ends_meet : Array Value} {us_ends_meet : Array (Option Value)} (ce_ends_meet : cd13 = .ref tca_ends_meet) (u_ends_meet : K.lookup tca_ends_meet = some ⟨uc_ends_meet, ud_ends_meet, .fields uv_ends_meet, us_ends_meet⟩) (uw_ends_meet : (uv_ends_meet[11]? : Option Value) = some (.ref tpa_ends_meet)) (tn_ends_meet : K.lookup tpa_ends_meet = none) (tr_ends_meet : ((PyProof.Rows.recsOf qq).any fun e => e.name == "ends_meet") = true)
    {tca_Tree_hit tpa_Tree_hit : Addr} {uc_Tree_hit : Value} {ud_Tree_hit : Option Addr} {uv_Tree_hit : Array Value} {us_Tree_hit : Array (Option Value)} (ce_Tree_hit : cd50 = .ref tca_Tree_hit) (u_Tree_hit : K.lookup tca_Tree_hit = some ⟨uc_Tree_hit, ud_Tree_hit, .fields uv_Tree_hit, us_Tree_hit⟩) (uw_Tree_hit : (uv_Tree_hit[11]? : Option Value) = some (.ref tpa_Tree_hit)) (tn_Tree_hit : K.lookup tpa_Tree_hit = none) (ch_Tree_hit : PySem.W.codeHdIn K tca_Tree_hit tpa_Tree_hit = true) (mi_Tree_hit : tpa_Tree_hit ∈ TS)
    {tca_Tree_closest tpa_Tree_closest : Addr} {uc_Tree_closest : Value} {ud_Tree_closest : Option Addr} {uv_Tree_closest : Array Value} {us_Tree_closest : Array (Option Value)} (ce_Tree_closest : cd51 = .ref tca_Tree_closest) (u_Tree_closest : K.lookup tca_Tree_closest = some ⟨uc_Tree_closest, ud_Tree_closest, .fields uv_Tree_closest, us_Tree_closest⟩) (uw_Tree_closest : (uv_Tree_closest[11]? : Option Value) = some (.ref tpa_Tree_closest)) (tn_Tree_closest : K.lookup tpa_Tree_closest = none) (ch_Tree_closest : PySem.W.codeHdIn K tca_Tree_closest tpa_Tree_closest = true) (mi_Tree_closest : tpa_Tree_closest ∈ TS)
    (df_ends_meet : tpa_ends_meet ≠ tpa_Tree_hit)
    (df1_ends_meet : tpa_ends_meet ≠ tpa_Tree_closest)
    (dl_ : tpa_Tree_closest ≠ tpa_Tree_hit)
    {kk_ZERO : Addr} {kd_ZERO : Option Addr} {ksl_ZERO : Array (Option Value)} {kn_ZERO : Nat} {kt_ZERO_0 kt_ZERO_1 : Tok}
    (ka_ZERO : PySem.W.nsIn K mainGlobals "ZERO" = some (some (.ref kk_ZERO))) (kl_ZERO : K.lookup kk_ZERO = some ⟨.type "tuple", kd_ZERO, .seq #[.int (0) kt_ZERO_0, .int (1) kt_ZERO_1] kn_ZERO, ksl_ZERO⟩)
    {kk_ONE : Addr} {kd_ONE : Option Addr} {ksl_ONE : Array (Option Value)} {kn_ONE : Nat} {kt_ONE_0 kt_ONE_1 : Tok}
    (ka_ONE : PySem.W.nsIn K mainGlobals "ONE" = some (some (.ref kk_ONE))) (kl_ONE : K.lookup kk_ONE = some ⟨.type "tuple", kd_ONE, .seq #[.int (1) kt_ONE_0, .int (1) kt_ONE_1] kn_ONE, ksl_ONE⟩)
    (pg_Broad : PySem.W.plainGet K CC_Broad Str.empty = true) (hd_Broad : PySem.W.hasDictIn K CC_Broad = true) (po_Broad : PySem.W.plainOver K CC_Broad = true) (sa_Broad : PySem.W.findIn K (.ref CC_Broad) "__setattr__" = some (some (.builtin "object.__setattr__"))) (mk_Broad : PySem.W.makesIn K CC_Broad = true) (kc_Broad : PySem.W.keepIn K (.ref CC_Broad) = true)
    (na_Broad_boxes : PySem.W.findIn K (.ref CC_Broad) "boxes" = some none)
    (na_Broad_ends : PySem.W.findIn K (.ref CC_Broad) "ends" = some none)
    (na_Broad_partners : PySem.W.findIn K (.ref CC_Broad) "partners" = some none)
    (pg_Tree : PySem.W.plainGet K CC_Tree Str.empty = true) (hd_Tree : PySem.W.hasDictIn K CC_Tree = true) (po_Tree : PySem.W.plainOver K CC_Tree = true) (sa_Tree : PySem.W.findIn K (.ref CC_Tree) "__setattr__" = some (some (.builtin "object.__setattr__"))) (mk_Tree : PySem.W.makesIn K CC_Tree = true) (kc_Tree : PySem.W.keepIn K (.ref CC_Tree) = true)
    (na_Tree__boxes : PySem.W.findIn K (.ref CC_Tree) "_boxes" = some none)
    (na_Tree__top : PySem.W.findIn K (.ref CC_Tree) "_top" = some none)
    {xx_ZeroDenominator xx_BoxError xx_IdError : Addr}
    (ea_ZeroDenominator : PySem.W.nsIn K mainGlobals "ZeroDenominator" = some (some (.ref xx_ZeroDenominator))) (ex_ZeroDenominator : PySem.W.excIn K xx_ZeroDenominator [.type "ValueError", .type "Exception", .type "BaseException", .type "object"] "ValueError.__new__" = true) (ek_ZeroDenominator : PySem.W.keepIn K (.ref xx_ZeroDenominator) = true) (eb_ZeroDenominator : PySem.W.subIn K (.ref xx_ZeroDenominator) (.type "BaseException") = some true) (et_ZeroDenominator : PySem.W.typeIn K (.ref xx_ZeroDenominator) = some (.type "type")) (eh_ZeroDenominator : PySem.W.hasDictIn K xx_ZeroDenominator = true)
    (ea_BoxError : PySem.W.nsIn K mainGlobals "BoxError" = some (some (.ref xx_BoxError))) (ex_BoxError : PySem.W.excIn K xx_BoxError [.type "ValueError", .type "Exception", .type "BaseException", .type "object"] "ValueError.__new__" = true) (ek_BoxError : PySem.W.keepIn K (.ref xx_BoxError) = true) (eb_BoxError : PySem.W.subIn K (.ref xx_BoxError) (.type "BaseException") = some true) (et_BoxError : PySem.W.typeIn K (.ref xx_BoxError) = some (.type "type")) (eh_BoxError : PySem.W.hasDictIn K xx_BoxError = true)
    (ea_IdError : PySem.W.nsIn K mainGlobals "IdError" = some (some (.ref xx_IdError))) (ex_IdError : PySem.W.excIn K xx_IdError [.type "ValueError", .type "Exception", .type "BaseException", .type "object"] "ValueError.__new__" = true) (ek_IdError : PySem.W.keepIn K (.ref xx_IdError) = true) (eb_IdError : PySem.W.subIn K (.ref xx_IdError) (.type "BaseException") = some true) (et_IdError : PySem.W.typeIn K (.ref xx_IdError) = some (.type "type")) (eh_IdError : PySem.W.hasDictIn K xx_IdError = true)
    (es_ZeroDenominator_ZeroDenominator : PySem.W.subIn K (.ref xx_ZeroDenominator) (.ref xx_ZeroDenominator) = some true)
    (es_BoxError_BoxError : PySem.W.subIn K (.ref xx_BoxError) (.ref xx_BoxError) = some true)
    (es_IdError_IdError : PySem.W.subIn K (.ref xx_IdError) (.ref xx_IdError) = some true)
    (z_abs : PySem.W.nsIn K mainGlobals "abs" = some none)
    (z_all : PySem.W.nsIn K mainGlobals "all" = some none)
    (z_int : PySem.W.nsIn K mainGlobals "int" = some none)
    (z_len : PySem.W.nsIn K mainGlobals "len" = some none)
    (z_list : PySem.W.nsIn K mainGlobals "list" = some none)
    (z_max : PySem.W.nsIn K mainGlobals "max" = some none)
    (z_range : PySem.W.nsIn K mainGlobals "range" = some none)
    (z_sorted : PySem.W.nsIn K mainGlobals "sorted" = some none)
    (z_tuple : PySem.W.nsIn K mainGlobals "tuple" = some none)
    (z_zip : PySem.W.nsIn K mainGlobals "zip" = some none)
    (z_gcd : PySem.W.nsIn K mainGlobals "gcd" = some (some (.builtin "math.gcd"))) :
    LamX.LawAtS PySem.Challenge.rw_steadybodies_k38_trees_and_broad_phases w K CX0 23 63 "script" mg fa h := by
  have tt_ends_meet := PL.tab_in a13 l13 ce_ends_meet u_ends_meet uw_ends_meet
  have e := hfa.symm.trans (PySem.W.mg_of X G a68)
  have e : fa = f68 := by cases e; rfl
  have F0 := fun_mk (st := s_wall) l0 c0 k0
  have b0 := F0.binds (ps := ["k"]) fun _ _ _ _ _ _ us hl => match us, hl with | [_], _ => rfl
  have F1 := fun_mk (st := s_plus) l1 c1 k1
  have b1 := F1.binds (ps := ["a", "b"]) fun _ _ _ _ _ _ us hl => match us, hl with | [_, _], _ => rfl
  have F2 := fun_mk (st := s_minus) l2 c2 k2
  have b2 := F2.binds (ps := ["a", "b"]) fun _ _ _ _ _ _ us hl => match us, hl with | [_, _], _ => rfl
  have F3 := fun_mk (st := s_times) l3 c3 k3
  have b3 := F3.binds (ps := ["a", "b"]) fun _ _ _ _ _ _ us hl => match us, hl with | [_, _], _ => rfl
  have F4 := fun_mk (st := s_over) l4 c4 k4
  have b4 := F4.binds (ps := ["a", "b"]) fun _ _ _ _ _ _ us hl => match us, hl with | [_, _], _ => rfl
  have F5 := fun_mk (st := s_compare) l5 c5 k5
  have b5 := F5.binds (ps := ["a", "b"]) fun _ _ _ _ _ _ us hl => match us, hl with | [_, _], _ => rfl
  have F6 := fun_mk (st := s_least) l6 c6 k6
  have b6 := F6.binds (ps := ["items"]) fun _ _ _ _ _ _ us hl => match us, hl with | [_], _ => rfl
  have F7 := fun_mk (st := s_greatest) l7 c7 k7
  have b7 := F7.binds (ps := ["items"]) fun _ _ _ _ _ _ us hl => match us, hl with | [_], _ => rfl
  have F8 := fun_mk (st := s_dot) l8 c8 k8
  have b8 := F8.binds (ps := ["a", "b"]) fun _ _ _ _ _ _ us hl => match us, hl with | [_, _], _ => rfl
  have F9 := fun_mk (st := s_is_sized) l9 c9 k9
  have b9 := F9.binds (ps := ["size"]) fun _ _ _ _ _ _ us hl => match us, hl with | [_], _ => rfl
  have F10 := fun_mk (st := s_check_box) l10 c10 k10
  have b10 := F10.binds (ps := ["box"]) fun _ _ _ _ _ _ us hl => match us, hl with | [_], _ => rfl
  have F11 := fun_mk (st := s_ends_of) l11 c11 k11
  have b11 := F11.binds (ps := ["box"]) fun _ _ _ _ _ _ us hl => match us, hl with | [_], _ => rfl
  have F12 := fun_mk (st := s_gap_of_ends) l12 c12 k12
  have b12 := F12.binds (ps := ["one", "other"]) fun _ _ _ _ _ _ us hl => match us, hl with | [_, _], _ => rfl
  have F13 := PL.funC_mk (st := s_ends_meet) l13 (PL.code_eq a13 l13 tt_ends_meet) c13 k13
  have b13 := F13.of.binds (ps := ["one", "other"]) fun _ _ _ _ _ _ us hl => match us, hl with | [_, _], _ => rfl
  have F14 := fun_mk (st := s_hull_of_ends) l14 c14 k14
  have b14 := F14.binds (ps := ["one", "other"]) fun _ _ _ _ _ _ us hl => match us, hl with | [_, _], _ => rfl
  have F15 := fun_mk (st := s_point_ends) l15 c15 k15
  have b15 := F15.binds (ps := ["point"]) fun _ _ _ _ _ _ us hl => match us, hl with | [_], _ => rfl
  have F16 := fun_mk (st := s_leaf_of) l16 c16 k16
  have b16 := F16.binds (ps := ["name", "ends"]) fun _ _ _ _ _ _ us hl => match us, hl with | [_, _], _ => rfl
  have F17 := fun_mk (st := s_branch_of) l17 c17 k17
  have b17 := F17.binds (ps := ["one", "other"]) fun _ _ _ _ _ _ us hl => match us, hl with | [_, _], _ => rfl
  have F18 := fun_mk (st := s_balanced) l18 c18 k18
  have b18 := F18.binds (ps := ["one", "other"]) fun _ _ _ _ _ _ us hl => match us, hl with | [_, _], _ => rfl
  have F19 := fun_mk (st := s_girth) l19 c19 k19
  have b19 := F19.binds (ps := ["ends"]) fun _ _ _ _ _ _ us hl => match us, hl with | [_], _ => rfl
  have F20 := fun_mk (st := s_growth) l20 c20 k20
  have b20 := F20.binds (ps := ["node", "leaf"]) fun _ _ _ _ _ _ us hl => match us, hl with | [_, _], _ => rfl
  have F21 := fun_mk (st := s_with_leaf) l21 c21 k21
  have b21 := F21.binds (ps := ["top", "leaf"]) fun _ _ _ _ _ _ us hl => match us, hl with | [_, _], _ => rfl
  have F22 := fun_mk (st := s_without_leaf) l22 c22 k22
  have b22 := F22.binds (ps := ["top", "leaf"]) fun _ _ _ _ _ _ us hl => match us, hl with | [_, _], _ => rfl
  have F23 := fun_mk (st := s_names_meeting) l23 c23 k23
  have b23 := F23.binds (ps := ["top", "ends"]) fun _ _ _ _ _ _ us hl => match us, hl with | [_, _], _ => rfl
  have F24 := fun_mk (st := s_least_leaf) l24 c24 k24
  have b24 := F24.binds (ps := ["top", "measure"]) fun _ _ _ _ _ _ us hl => match us, hl with | [_, _], _ => rfl
  have F25 := fun_mk (st := s_nodes_from) l25 c25 k25
  have b25 := F25.binds (ps := ["top"]) fun _ _ _ _ _ _ us hl => match us, hl with | [_], _ => rfl
  have F26 := fun_mk (st := s_check_unused) l26 c26 k26
  have b26 := F26.binds (ps := ["boxes", "name"]) fun _ _ _ _ _ _ us hl => match us, hl with | [_, _], _ => rfl
  have F27 := fun_mk (st := s_check_used) l27 c27 k27
  have b27 := F27.binds (ps := ["boxes", "name"]) fun _ _ _ _ _ _ us hl => match us, hl with | [_, _], _ => rfl
  have F28 := fun_mk (st := s_Broad_init) l28 c28 k28
  have b28 := F28.binds (ps := ["self"]) fun _ _ _ _ _ _ us hl => match us, hl with | [_], _ => rfl
  have F29 := fun_mk (st := s_Broad_names) l29 c29 k29
  have b29 := F29.binds (ps := ["self"]) fun _ _ _ _ _ _ us hl => match us, hl with | [_], _ => rfl
  have F30 := fun_mk (st := s_Broad_add) l30 c30 k30
  have b30 := F30.binds (ps := ["self", "name", "box"]) fun _ _ _ _ _ _ us hl => match us, hl with | [_, _, _], _ => rfl
  have F31 := fun_mk (st := s_Broad_move) l31 c31 k31
  have b31 := F31.binds (ps := ["self", "name", "box"]) fun _ _ _ _ _ _ us hl => match us, hl with | [_, _, _], _ => rfl
  have F32 := fun_mk (st := s_Broad_remove) l32 c32 k32
  have b32 := F32.binds (ps := ["self", "name"]) fun _ _ _ _ _ _ us hl => match us, hl with | [_, _], _ => rfl
  have F33 := fun_mk (st := s_Broad_pairs) l33 c33 k33
  have b33 := F33.binds (ps := ["self"]) fun _ _ _ _ _ _ us hl => match us, hl with | [_], _ => rfl
  have F34 := fun_mk (st := s_Broad_near) l34 c34 k34
  have b34 := F34.binds (ps := ["self", "box"]) fun _ _ _ _ _ _ us hl => match us, hl with | [_, _], _ => rfl
  have F35 := fun_mk (st := s_Broad_box_of) l35 c35 k35
  have b35 := F35.binds (ps := ["self", "name"]) fun _ _ _ _ _ _ us hl => match us, hl with | [_, _], _ => rfl
  have F36 := fun_mk (st := s_Broad_meeting) l36 c36 k36
  have b36 := F36.binds (ps := ["self", "ends"]) fun _ _ _ _ _ _ us hl => match us, hl with | [_, _], _ => rfl
  have F37 := fun_mk (st := s_Broad_put) l37 c37 k37
  have b37 := F37.binds (ps := ["self", "name", "box"]) fun _ _ _ _ _ _ us hl => match us, hl with | [_, _, _], _ => rfl
  have F38 := fun_mk (st := s_Broad_take) l38 c38 k38
  have b38 := F38.binds (ps := ["self", "name"]) fun _ _ _ _ _ _ us hl => match us, hl with | [_, _], _ => rfl
  have F39 := fun_mk (st := s_passing) l39 c39 k39
  have b39 := F39.binds (ps := ["low", "high", "way"]) fun _ _ _ _ _ _ us hl => match us, hl with | [_, _, _], _ => rfl
  have F40 := fun_mk (st := s_common_span) l40 c40 k40
  have b40 := F40.binds (ps := ["spans"]) fun _ _ _ _ _ _ us hl => match us, hl with | [_], _ => rfl
  have F41 := fun_mk (st := s_stretch_within) l41 c41 k41
  have b41 := F41.binds (ps := ["ends", "origin", "path"]) fun _ _ _ _ _ _ us hl => match us, hl with | [_, _, _], _ => rfl
  have F42 := fun_mk (st := s_time_within) l42 c42 k42
  have b42 := F42.binds (ps := ["ends", "origin", "path"]) fun _ _ _ _ _ _ us hl => match us, hl with | [_, _, _], _ => rfl
  have F43 := fun_mk (st := s_Tree_init) l43 c43 k43
  have b43 := F43.binds (ps := ["self"]) fun _ _ _ _ _ _ us hl => match us, hl with | [_], _ => rfl
  have F44 := fun_mk (st := s_Tree_names) l44 c44 k44
  have b44 := F44.binds (ps := ["self"]) fun _ _ _ _ _ _ us hl => match us, hl with | [_], _ => rfl
  have F45 := fun_mk (st := s_Tree_add) l45 c45 k45
  have b45 := F45.binds (ps := ["self", "name", "box"]) fun _ _ _ _ _ _ us hl => match us, hl with | [_, _, _], _ => rfl
  have F46 := fun_mk (st := s_Tree_move) l46 c46 k46
  have b46 := F46.binds (ps := ["self", "name", "box"]) fun _ _ _ _ _ _ us hl => match us, hl with | [_, _, _], _ => rfl
  have F47 := fun_mk (st := s_Tree_remove) l47 c47 k47
  have b47 := F47.binds (ps := ["self", "name"]) fun _ _ _ _ _ _ us hl => match us, hl with | [_, _], _ => rfl
  have F48 := fun_mk (st := s_Tree_box_of) l48 c48 k48
  have b48 := F48.binds (ps := ["self", "name"]) fun _ _ _ _ _ _ us hl => match us, hl with | [_, _], _ => rfl
  have F49 := fun_mk (st := s_Tree_near) l49 c49 k49
  have b49 := F49.binds (ps := ["self", "box"]) fun _ _ _ _ _ _ us hl => match us, hl with | [_, _], _ => rfl
  have F50 := PL.funC_mk (st := s_Tree_hit) l50 ce_Tree_hit c50 k50
  have b50 := F50.of.binds (ps := ["self", "origin", "path"]) fun _ _ _ _ _ _ us hl => match us, hl with | [_, _, _], _ => rfl
  have F51 := PL.funC_mk (st := s_Tree_closest) l51 ce_Tree_closest c51 k51
  have b51 := F51.of.binds (ps := ["self", "point"]) fun _ _ _ _ _ _ us hl => match us, hl with | [_, _], _ => rfl
  have F52 := fun_mk (st := s_Tree_put) l52 c52 k52
  have b52 := F52.binds (ps := ["self", "name", "box"]) fun _ _ _ _ _ _ us hl => match us, hl with | [_, _, _], _ => rfl
  have F53 := fun_mk (st := s_Tree_take) l53 c53 k53
  have b53 := F53.binds (ps := ["self", "name"]) fun _ _ _ _ _ _ us hl => match us, hl with | [_, _], _ => rfl
  have F54 := fun_mk (st := s_square_of_distance) l54 c54 k54
  have b54 := F54.binds (ps := ["ends", "point"]) fun _ _ _ _ _ _ us hl => match us, hl with | [_, _], _ => rfl
  have F55 := fun_mk (st := s_law_begin) l55 c55 k55
  have b55 := F55.binds (ps := ["script"]) fun _ _ _ _ _ _ us hl => match us, hl with | [_], _ => rfl
  have F56 := fun_mk (st := s_law_take) l56 c56 k56
  have b56 := F56.binds (ps := ["d", "many"]) fun _ _ _ _ _ _ us hl => match us, hl with | [_, _], _ => rfl
  have F57 := fun_mk (st := s_law_signed) l57 c57 k57
  have b57 := F57.binds (ps := ["d", "most"]) fun _ _ _ _ _ _ us hl => match us, hl with | [_, _], _ => rfl
  have F58 := fun_mk (st := s_law_gcd) l58 c58 k58
  have b58 := F58.binds (ps := ["a", "b"]) fun _ _ _ _ _ _ us hl => match us, hl with | [_, _], _ => rfl
  have F59 := fun_mk (st := s_law_f) l59 c59 k59
  have b59 := F59.binds (ps := ["a", "b"]) fun _ _ _ _ _ _ us hl => match us, hl with | [_, _], _ => rfl
  have F60 := fun_mk (st := s_law_plus) l60 c60 k60
  have b60 := F60.binds (ps := ["a", "b"]) fun _ _ _ _ _ _ us hl => match us, hl with | [_, _], _ => rfl
  have F61 := fun_mk (st := s_law_minus) l61 c61 k61
  have b61 := F61.binds (ps := ["a", "b"]) fun _ _ _ _ _ _ us hl => match us, hl with | [_, _], _ => rfl
  have F62 := fun_mk (st := s_law_part) l62 c62 k62
  have b62 := F62.binds (ps := ["d", "most"]) fun _ _ _ _ _ _ us hl => match us, hl with | [_, _], _ => rfl
  have F63 := fun_mk (st := s_law_vector) l63 c63 k63
  have b63 := F63.binds (ps := ["d", "most"]) fun _ _ _ _ _ _ us hl => match us, hl with | [_, _], _ => rfl
  have F64 := fun_mk (st := s_law_high) l64 c64 k64
  have b64 := F64.binds (ps := ["box", "k"]) fun _ _ _ _ _ _ us hl => match us, hl with | [_, _], _ => rfl
  have F65 := fun_mk (st := s_law_size) l65 c65 k65
  have b65 := F65.binds (ps := ["d"]) fun _ _ _ _ _ _ us hl => match us, hl with | [_], _ => rfl
  have F66 := fun_mk (st := s_law_beside) l66 c66 k66
  have b66 := F66.binds (ps := ["d", "box", "size"]) fun _ _ _ _ _ _ us hl => match us, hl with | [_, _, _], _ => rfl
  have F67 := fun_mk (st := s_law_box) l67 c67 k67
  have b67 := F67.binds (ps := ["d", "boxes"]) fun _ _ _ _ _ _ us hl => match us, hl with | [_, _], _ => rfl
  have F68 := fun_mk (st := s_law) l68 c68 k68
  have b68 := F68.binds (ps := ["script"]) fun _ _ _ _ _ _ us hl => match us, hl with | [_], _ => rfl
  have y_ends_meet := htab "ends_meet" _ _ tr_ends_meet tt_ends_meet
  have y_Tree_hit := And.intro (PySem.W.codeHd_of_K X ch_Tree_hit) (hms _ mi_Tree_hit)
  have y_Tree_closest := And.intro (PySem.W.codeHd_of_K X ch_Tree_closest) (hms _ mi_Tree_closest)
  letI : PL.Nm := ⟨fun a => if a = tpa_Tree_hit then ("Tree.hit" : Str) ++ (".<locals>." : Str) ++ ("<lambda>" : Str) else ("Tree.closest" : Str) ++ (".<locals>." : Str) ++ ("<lambda>" : Str)⟩
  refine ⟨PySem.W.fnOf "law" "law" (defArgs s_law) (defBody s_law) (defScope s_law) .none kV68 dc68 pm68 an68 cd68 ct68, [(tca_ends_meet, tpa_ends_meet), (tca_Tree_hit, tpa_Tree_hit), (tca_Tree_closest, tpa_Tree_closest)], spLawT K ⟨[tpa_ends_meet], [tpa_Tree_hit, tpa_Tree_closest]⟩, ?_, ?_, ?_, fun s v => .of_eq rfl, fun H a ns hl hb hH hS => ⟨a, ns, rfl, hS, hl, PL.start_tabs hS ?_ ?_, fun _ => rfl⟩, fun base _ _ hTB => ?_⟩
  · intro p hp
    simp only [List.mem_cons, List.not_mem_nil, or_false] at hp
    rcases hp with rfl | rfl | rfl
    · exact y_ends_meet.2
    · exact y_Tree_hit.2
    · exact y_Tree_closest.2
  · intro p hp
    simp only [List.mem_cons, List.not_mem_nil, or_false] at hp
    rcases hp with rfl | rfl | rfl
    · exact tn_ends_meet
    · exact tn_Tree_hit
    · exact tn_Tree_closest
  · intro p hp
    simp only [List.mem_cons, List.not_mem_nil, or_false] at hp
    rcases hp with rfl | rfl | rfl
    · exact y_ends_meet.1
    · exact y_Tree_hit.1
    · exact y_Tree_closest.1
  · intro p hp
    simp only [List.mem_cons, List.not_mem_nil, or_false] at hp
    rcases hp with hp
    · exact ⟨#[], by rw [hp]; exact hH (tca_ends_meet, tpa_ends_meet) List.mem_cons_self, True.intro, fun hz => (List.mem_cons.mp hz).elim (fun z => df_ends_meet (by rw [← hp]; exact z)) fun z => df1_ends_meet (by rw [← hp]; exact List.mem_singleton.mp z)⟩
  · intro p hp
    simp only [List.mem_cons, List.not_mem_nil, or_false] at hp
    rcases hp with hp | hp
    · rw [hp]; exact hH (tca_Tree_hit, tpa_Tree_hit) (List.mem_cons_of_mem _ List.mem_cons_self)
    · rw [hp]; exact hH (tca_Tree_closest, tpa_Tree_closest) (List.mem_cons_of_mem _ (List.mem_cons_of_mem _ List.mem_cons_self))
  let Tp : Top K mg base := {
    f_wall := f0, d_wall := _, F_wall := F0, g_wall := PySem.W.mg_of X G a0, b_wall := b0,
    f_plus := f1, d_plus := _, F_plus := F1, g_plus := PySem.W.mg_of X G a1, b_plus := b1,
    f_minus := f2, d_minus := _, F_minus := F2, g_minus := PySem.W.mg_of X G a2, b_minus := b2,
    f_times := f3, d_times := _, F_times := F3, g_times := PySem.W.mg_of X G a3, b_times := b3,
    f_over := f4, d_over := _, F_over := F4, g_over := PySem.W.mg_of X G a4, b_over := b4,
    f_compare := f5, d_compare := _, F_compare := F5, g_compare := PySem.W.mg_of X G a5, b_compare := b5,
    f_least := f6, d_least := _, F_least := F6, g_least := PySem.W.mg_of X G a6, b_least := b6,
    f_greatest := f7, d_greatest := _, F_greatest := F7, g_greatest := PySem.W.mg_of X G a7, b_greatest := b7,
    f_dot := f8, d_dot := _, F_dot := F8, g_dot := PySem.W.mg_of X G a8, b_dot := b8,
    f_is_sized := f9, d_is_sized := _, F_is_sized := F9, g_is_sized := PySem.W.mg_of X G a9, b_is_sized := b9,
    f_check_box := f10, d_check_box := _, F_check_box := F10, g_check_box := PySem.W.mg_of X G a10, b_check_box := b10,
    f_ends_of := f11, d_ends_of := _, F_ends_of := F11, g_ends_of := PySem.W.mg_of X G a11, b_ends_of := b11,
    f_gap_of_ends := f12, d_gap_of_ends := _, F_gap_of_ends := F12, g_gap_of_ends := PySem.W.mg_of X G a12, b_gap_of_ends := b12,
    tc_ends_meet := tca_ends_meet, tp_ends_meet := tpa_ends_meet, tb_ends_meet := ⟨(hTB _ List.mem_cons_self).code, (hTB _ List.mem_cons_self).bm, (hTB _ List.mem_cons_self).gP⟩,
    f_ends_meet := f13, d_ends_meet := _, F_ends_meet := F13, g_ends_meet := PySem.W.mg_of X G a13, b_ends_meet := b13,
    f_hull_of_ends := f14, d_hull_of_ends := _, F_hull_of_ends := F14, g_hull_of_ends := PySem.W.mg_of X G a14, b_hull_of_ends := b14,
    f_point_ends := f15, d_point_ends := _, F_point_ends := F15, g_point_ends := PySem.W.mg_of X G a15, b_point_ends := b15,
    f_leaf_of := f16, d_leaf_of := _, F_leaf_of := F16, g_leaf_of := PySem.W.mg_of X G a16, b_leaf_of := b16,
    f_branch_of := f17, d_branch_of := _, F_branch_of := F17, g_branch_of := PySem.W.mg_of X G a17, b_branch_of := b17,
    f_balanced := f18, d_balanced := _, F_balanced := F18, g_balanced := PySem.W.mg_of X G a18, b_balanced := b18,
    f_girth := f19, d_girth := _, F_girth := F19, g_girth := PySem.W.mg_of X G a19, b_girth := b19,
    f_growth := f20, d_growth := _, F_growth := F20, g_growth := PySem.W.mg_of X G a20, b_growth := b20,
    f_with_leaf := f21, d_with_leaf := _, F_with_leaf := F21, g_with_leaf := PySem.W.mg_of X G a21, b_with_leaf := b21,
    f_without_leaf := f22, d_without_leaf := _, F_without_leaf := F22, g_without_leaf := PySem.W.mg_of X G a22, b_without_leaf := b22,
    f_names_meeting := f23, d_names_meeting := _, F_names_meeting := F23, g_names_meeting := PySem.W.mg_of X G a23, b_names_meeting := b23,
    f_least_leaf := f24, d_least_leaf := _, F_least_leaf := F24, g_least_leaf := PySem.W.mg_of X G a24, b_least_leaf := b24,
    f_nodes_from := f25, d_nodes_from := _, F_nodes_from := F25, g_nodes_from := PySem.W.mg_of X G a25, b_nodes_from := b25,
    f_check_unused := f26, d_check_unused := _, F_check_unused := F26, g_check_unused := PySem.W.mg_of X G a26, b_check_unused := b26,
    f_check_used := f27, d_check_used := _, F_check_used := F27, g_check_used := PySem.W.mg_of X G a27, b_check_used := b27,
    f_Broad_init := f28, d_Broad_init := _, F_Broad_init := F28, b_Broad_init := b28,
    f_Broad_names := f29, d_Broad_names := _, F_Broad_names := F29, b_Broad_names := b29,
    f_Broad_add := f30, d_Broad_add := _, F_Broad_add := F30, b_Broad_add := b30,
    f_Broad_move := f31, d_Broad_move := _, F_Broad_move := F31, b_Broad_move := b31,
    f_Broad_remove := f32, d_Broad_remove := _, F_Broad_remove := F32, b_Broad_remove := b32,
    f_Broad_pairs := f33, d_Broad_pairs := _, F_Broad_pairs := F33, b_Broad_pairs := b33,
    f_Broad_near := f34, d_Broad_near := _, F_Broad_near := F34, b_Broad_near := b34,
    f_Broad_box_of := f35, d_Broad_box_of := _, F_Broad_box_of := F35, b_Broad_box_of := b35,
    f_Broad_meeting := f36, d_Broad_meeting := _, F_Broad_meeting := F36, b_Broad_meeting := b36,
    f_Broad_put := f37, d_Broad_put := _, F_Broad_put := F37, b_Broad_put := b37,
    f_Broad_take := f38, d_Broad_take := _, F_Broad_take := F38, b_Broad_take := b38,
    f_passing := f39, d_passing := _, F_passing := F39, g_passing := PySem.W.mg_of X G a39, b_passing := b39,
    f_common_span := f40, d_common_span := _, F_common_span := F40, g_common_span := PySem.W.mg_of X G a40, b_common_span := b40,
    f_stretch_within := f41, d_stretch_within := _, F_stretch_within := F41, g_stretch_within := PySem.W.mg_of X G a41, b_stretch_within := b41,
    f_time_within := f42, d_time_within := _, F_time_within := F42, g_time_within := PySem.W.mg_of X G a42, b_time_within := b42,
    f_Tree_init := f43, d_Tree_init := _, F_Tree_init := F43, b_Tree_init := b43,
    f_Tree_names := f44, d_Tree_names := _, F_Tree_names := F44, b_Tree_names := b44,
    f_Tree_add := f45, d_Tree_add := _, F_Tree_add := F45, b_Tree_add := b45,
    f_Tree_move := f46, d_Tree_move := _, F_Tree_move := F46, b_Tree_move := b46,
    f_Tree_remove := f47, d_Tree_remove := _, F_Tree_remove := F47, b_Tree_remove := b47,
    f_Tree_box_of := f48, d_Tree_box_of := _, F_Tree_box_of := F48, b_Tree_box_of := b48,
    f_Tree_near := f49, d_Tree_near := _, F_Tree_near := F49, b_Tree_near := b49,
    tc_Tree_hit := tca_Tree_hit, tp_Tree_hit := tpa_Tree_hit, tb_Tree_hit := ⟨(hTB _ (List.mem_cons_of_mem _ List.mem_cons_self)).code, (hTB _ (List.mem_cons_of_mem _ List.mem_cons_self)).bm, (hTB _ (List.mem_cons_of_mem _ List.mem_cons_self)).gP⟩, ln_Tree_hit := if_pos rfl,
    f_Tree_hit := f50, d_Tree_hit := _, F_Tree_hit := F50, b_Tree_hit := b50,
    tc_Tree_closest := tca_Tree_closest, tp_Tree_closest := tpa_Tree_closest, tb_Tree_closest := ⟨(hTB _ (List.mem_cons_of_mem _ (List.mem_cons_of_mem _ List.mem_cons_self))).code, (hTB _ (List.mem_cons_of_mem _ (List.mem_cons_of_mem _ List.mem_cons_self))).bm, (hTB _ (List.mem_cons_of_mem _ (List.mem_cons_of_mem _ List.mem_cons_self))).gP⟩, ln_Tree_closest := if_neg dl_,
    f_Tree_closest := f51, d_Tree_closest := _, F_Tree_closest := F51, b_Tree_closest := b51,
    f_Tree_put := f52, d_Tree_put := _, F_Tree_put := F52, b_Tree_put := b52,
    f_Tree_take := f53, d_Tree_take := _, F_Tree_take := F53, b_Tree_take := b53,
    f_square_of_distance := f54, d_square_of_distance := _, F_square_of_distance := F54, g_square_of_distance := PySem.W.mg_of X G a54, b_square_of_distance := b54,
    f_law_begin := f55, d_law_begin := _, F_law_begin := F55, g_law_begin := PySem.W.mg_of X G a55, b_law_begin := b55,
    f_law_take := f56, d_law_take := _, F_law_take := F56, g_law_take := PySem.W.mg_of X G a56, b_law_take := b56,
    f_law_signed := f57, d_law_signed := _, F_law_signed := F57, g_law_signed := PySem.W.mg_of X G a57, b_law_signed := b57,
    f_law_gcd := f58, d_law_gcd := _, F_law_gcd := F58, g_law_gcd := PySem.W.mg_of X G a58, b_law_gcd := b58,
    f_law_f := f59, d_law_f := _, F_law_f := F59, g_law_f := PySem.W.mg_of X G a59, b_law_f := b59,
    f_law_plus := f60, d_law_plus := _, F_law_plus := F60, g_law_plus := PySem.W.mg_of X G a60, b_law_plus := b60,
    f_law_minus := f61, d_law_minus := _, F_law_minus := F61, g_law_minus := PySem.W.mg_of X G a61, b_law_minus := b61,
    f_law_part := f62, d_law_part := _, F_law_part := F62, g_law_part := PySem.W.mg_of X G a62, b_law_part := b62,
    f_law_vector := f63, d_law_vector := _, F_law_vector := F63, g_law_vector := PySem.W.mg_of X G a63, b_law_vector := b63,
    f_law_high := f64, d_law_high := _, F_law_high := F64, g_law_high := PySem.W.mg_of X G a64, b_law_high := b64,
    f_law_size := f65, d_law_size := _, F_law_size := F65, g_law_size := PySem.W.mg_of X G a65, b_law_size := b65,
    f_law_beside := f66, d_law_beside := _, F_law_beside := F66, g_law_beside := PySem.W.mg_of X G a66, b_law_beside := b66,
    f_law_box := f67, d_law_box := _, F_law_box := F67, g_law_box := PySem.W.mg_of X G a67, b_law_box := b67,
    f_law := f68, d_law := _, F_law := F68, g_law := PySem.W.mg_of X G a68, b_law := b68,
    C_Broad := CC_Broad, gC_Broad := PySem.W.mg_of X G aC_Broad, cl_Broad := ⟨pg_Broad, hd_Broad, po_Broad, sa_Broad⟩, mk_Broad := ⟨mk_Broad, a28, i28, kc_Broad⟩, na_Broad_boxes := na_Broad_boxes, na_Broad_ends := na_Broad_ends, na_Broad_partners := na_Broad_partners, pa_Broad_names := pp_Broad_names, pr_Broad_names := ⟨pw_Broad_names, pg_Broad_names, pt_Broad_names, _, pc_Broad_names⟩, me_Broad_add := ⟨a30, i30, k30⟩, me_Broad_move := ⟨a31, i31, k31⟩, me_Broad_remove := ⟨a32, i32, k32⟩, me_Broad_pairs := ⟨a33, i33, k33⟩, me_Broad_near := ⟨a34, i34, k34⟩, me_Broad_box_of := ⟨a35, i35, k35⟩, me_Broad_meeting := ⟨a36, i36, k36⟩, me_Broad_put := ⟨a37, i37, k37⟩, me_Broad_take := ⟨a38, i38, k38⟩,
    C_Tree := CC_Tree, gC_Tree := PySem.W.mg_of X G aC_Tree, cl_Tree := ⟨pg_Tree, hd_Tree, po_Tree, sa_Tree⟩, mk_Tree := ⟨mk_Tree, a43, i43, kc_Tree⟩, na_Tree__boxes := na_Tree__boxes, na_Tree__top := na_Tree__top, pa_Tree_names := pp_Tree_names, pr_Tree_names := ⟨pw_Tree_names, pg_Tree_names, pt_Tree_names, _, pc_Tree_names⟩, me_Tree_add := ⟨a45, i45, k45⟩, me_Tree_move := ⟨a46, i46, k46⟩, me_Tree_remove := ⟨a47, i47, k47⟩, me_Tree_box_of := ⟨a48, i48, k48⟩, me_Tree_near := ⟨a49, i49, k49⟩, me_Tree_hit := ⟨a50, i50, k50⟩, me_Tree_closest := ⟨a51, i51, k51⟩, me_Tree_put := ⟨a52, i52, k52⟩, me_Tree_take := ⟨a53, i53, k53⟩,
    k_ZERO := kk_ZERO, gk_ZERO := PySem.W.mg_of X G ka_ZERO, dk_ZERO := const_t kl_ZERO rfl rfl (show 2 ≤ 100 by decide) (.cons ⟨_, rfl⟩ (.cons ⟨_, rfl⟩ .nil)),
    k_ONE := kk_ONE, gk_ONE := PySem.W.mg_of X G ka_ONE, dk_ONE := const_t kl_ONE rfl rfl (show 2 ≤ 100 by decide) (.cons ⟨_, rfl⟩ (.cons ⟨_, rfl⟩ .nil)),
    c_ZeroDenominator := xx_ZeroDenominator, gc_ZeroDenominator := PySem.W.mg_of X G ea_ZeroDenominator, xc_ZeroDenominator := ex_ZeroDenominator, kc_ZeroDenominator := ek_ZeroDenominator, bc_ZeroDenominator := eb_ZeroDenominator, tc_ZeroDenominator := et_ZeroDenominator, hc_ZeroDenominator := eh_ZeroDenominator,
    c_BoxError := xx_BoxError, gc_BoxError := PySem.W.mg_of X G ea_BoxError, xc_BoxError := ex_BoxError, kc_BoxError := ek_BoxError, bc_BoxError := eb_BoxError, tc_BoxError := et_BoxError, hc_BoxError := eh_BoxError,
    c_IdError := xx_IdError, gc_IdError := PySem.W.mg_of X G ea_IdError, xc_IdError := ex_IdError, kc_IdError := ek_IdError, bc_IdError := eb_IdError, tc_IdError := et_IdError, hc_IdError := eh_IdError,
    ac_ZeroDenominator_ZeroDenominator := es_ZeroDenominator_ZeroDenominator,
    ac_BoxError_BoxError := es_BoxError_BoxError,
    ac_IdError_IdError := es_IdError_IdError,
    n_abs := PySem.W.mg_none_of X G z_abs, n_all := PySem.W.mg_none_of X G z_all, n_int := PySem.W.mg_none_of X G z_int, n_len := PySem.W.mg_none_of X G z_len, n_list := PySem.W.mg_none_of X G z_list, n_max := PySem.W.mg_none_of X G z_max, n_range := PySem.W.mg_none_of X G z_range, n_sorted := PySem.W.mg_none_of X G z_sorted, n_tuple := PySem.W.mg_none_of X G z_tuple, n_zip := PySem.W.mg_none_of X G z_zip, n_gcd := PySem.W.mg_of X G z_gcd }
  rw [e]
  exact fok_law (P := PySem.Challenge.rw_steadybodies_k38_trees_and_broad_phases.prog) (w := w) (base := base) Tp
end W
open PySem PySem.W PyProof.Rows
set_option maxHeartbeats 0 in
theorem PySem.Challenge.cw_steadybodies_k38_trees_and_broad_phases_holds : PySem.Challenge.rw_steadybodies_k38_trees_and_broad_phases.Holds := by
  w_on; o_law; k_head; (case hw => w_witness2)
  k_fill
  letI : PL.Nm := ⟨fun _ => ""⟩
  refine PL.walk_ofM (l := PySem.Challenge.rw_steadybodies_k38_trees_and_broad_phases) (n := 63) (k := 23) (x := "script") (CX := fun _ => L2.CX0) rfl (by decide) rfl ⟨rfl, by decide, by decide⟩ (fun w h Y => PySem.W.km_in_of Y) (fun w h Y => PySem.W.km_tabs_of Y) ?F (fun _ _ _ _ _ h => h)
  case F =>
    intro w mg fa h hms KX G hmg htab
    refine' W.all_mk KX G hmg htab hms ?aC_Broad ?aC_Tree ?a0 ?l0 ?c0 ?k0 ?a1 ?l1 ?c1 ?k1 ?a2 ?l2 ?c2 ?k2 ?a3 ?l3 ?c3 ?k3 ?a4 ?l4 ?c4 ?k4 ?a5 ?l5 ?c5 ?k5 ?a6 ?l6 ?c6 ?k6 ?a7 ?l7 ?c7 ?k7 ?a8 ?l8 ?c8 ?k8 ?a9 ?l9 ?c9 ?k9 ?a10 ?l10 ?c10 ?k10 ?a11 ?l11 ?c11 ?k11 ?a12 ?l12 ?c12 ?k12 ?a13 ?l13 ?c13 ?k13 ?a14 ?l14 ?c14 ?k14 ?a15 ?l15 ?c15 ?k15 ?a16 ?l16 ?c16 ?k16 ?a17 ?l17 ?c17 ?k17 ?a18 ?l18 ?c18 ?k18 ?a19 ?l19 ?c19 ?k19 ?a20 ?l20 ?c20 ?k20 ?a21 ?l21 ?c21 ?k21 ?a22 ?l22 ?c22 ?k22 ?a23 ?l23 ?c23 ?k23 ?a24 ?l24 ?c24 ?k24 ?a25 ?l25 ?c25 ?k25 ?a26 ?l26 ?c26 ?k26 ?a27 ?l27 ?c27 ?k27 ?a28 ?i28 ?l28 ?c28 ?k28 ?pw_Broad_names ?pg_Broad_names ?pt_Broad_names ?pc_Broad_names ?l29 ?c29 ?k29 ?a30 ?i30 ?l30 ?c30 ?k30 ?a31 ?i31 ?l31 ?c31 ?k31 ?a32 ?i32 ?l32 ?c32 ?k32 ?a33 ?i33 ?l33 ?c33 ?k33 ?a34 ?i34 ?l34 ?c34 ?k34 ?a35 ?i35 ?l35 ?c35 ?k35 ?a36 ?i36 ?l36 ?c36 ?k36 ?a37 ?i37 ?l37 ?c37 ?k37 ?a38 ?i38 ?l38 ?c38 ?k38 ?a39 ?l39 ?c39 ?k39 ?a40 ?l40 ?c40 ?k40 ?a41 ?l41 ?c41 ?k41 ?a42 ?l42 ?c42 ?k42 ?a43 ?i43 ?l43 ?c43 ?k43 ?pw_Tree_names ?pg_Tree_names ?pt_Tree_names ?pc_Tree_names ?l44 ?c44 ?k44 ?a45 ?i45 ?l45 ?c45 ?k45 ?a46 ?i46 ?l46 ?c46 ?k46 ?a47 ?i47 ?l47 ?c47 ?k47 ?a48 ?i48 ?l48 ?c48 ?k48 ?a49 ?i49 ?l49 ?c49 ?k49 ?a50 ?i50 ?l50 ?c50 ?k50 ?a51 ?i51 ?l51 ?c51 ?k51 ?a52 ?i52 ?l52 ?c52 ?k52 ?a53 ?i53 ?l53 ?c53 ?k53 ?a54 ?l54 ?c54 ?k54 ?a55 ?l55 ?c55 ?k55 ?a56 ?l56 ?c56 ?k56 ?a57 ?l57 ?c57 ?k57 ?a58 ?l58 ?c58 ?k58 ?a59 ?l59 ?c59 ?k59 ?a60 ?l60 ?c60 ?k60 ?a61 ?l61 ?c61 ?k61 ?a62 ?l62 ?c62 ?k62 ?a63 ?l63 ?c63 ?k63 ?a64 ?l64 ?c64 ?k64 ?a65 ?l65 ?c65 ?k65 ?a66 ?l66 ?c66 ?k66 ?a67 ?l67 ?c67 ?k67 ?a68 ?l68 ?c68 ?k68 ?ce_ends_meet ?u_ends_meet ?uw_ends_meet ?tn_ends_meet ?tr_ends_meet ?ce_Tree_hit ?u_Tree_hit ?uw_Tree_hit ?tn_Tree_hit ?ch_Tree_hit ?mi_Tree_hit ?ce_Tree_closest ?u_Tree_closest ?uw_Tree_closest ?tn_Tree_closest ?ch_Tree_closest ?mi_Tree_closest ?df_ends_meet ?df1_ends_meet ?dl_ ?ka_ZERO ?kl_ZERO ?ka_ONE ?kl_ONE ?pg_Broad ?hd_Broad ?po_Broad ?sa_Broad ?mk_Broad ?kc_Broad ?na_Broad_boxes ?na_Broad_ends ?na_Broad_partners ?pg_Tree ?hd_Tree ?po_Tree ?sa_Tree ?mk_Tree ?kc_Tree ?na_Tree__boxes ?na_Tree__top ?ea_ZeroDenominator ?ex_ZeroDenominator ?ek_ZeroDenominator ?eb_ZeroDenominator ?et_ZeroDenominator ?eh_ZeroDenominator ?ea_BoxError ?ex_BoxError ?ek_BoxError ?eb_BoxError ?et_BoxError ?eh_BoxError ?ea_IdError ?ex_IdError ?ek_IdError ?eb_IdError ?et_IdError ?eh_IdError ?es_ZeroDenominator_ZeroDenominator ?es_BoxError_BoxError ?es_IdError_IdError ?z_abs ?z_all ?z_int ?z_len ?z_list ?z_max ?z_range ?z_sorted ?z_tuple ?z_zip ?z_gcd
    (case aC_Broad => k_is); (case aC_Tree => k_is); (case a0 => k_is); (case l0 => k_is); (case c0 => k_is); (case k0 => k_is); (case a1 => k_is); (case l1 => k_is); (case c1 => k_is); (case k1 => k_is); (case a2 => k_is); (case l2 => k_is); (case c2 => k_is); (case k2 => k_is); (case a3 => k_is); (case l3 => k_is); (case c3 => k_is); (case k3 => k_is); (case a4 => k_is); (case l4 => k_is); (case c4 => k_is); (case k4 => k_is); (case a5 => k_is); (case l5 => k_is); (case c5 => k_is); (case k5 => k_is); (case a6 => k_is); (case l6 => k_is); (case c6 => k_is); (case k6 => k_is); (case a7 => k_is); (case l7 => k_is); (case c7 => k_is); (case k7 => k_is); (case a8 => k_is); (case l8 => k_is); (case c8 => k_is); (case k8 => k_is); (case a9 => k_is); (case l9 => k_is); (case c9 => k_is); (case k9 => k_is); (case a10 => k_is); (case l10 => k_is); (case c10 => k_is); (case k10 => k_is); (case a11 => k_is); (case l11 => k_is); (case c11 => k_is); (case k11 => k_is); (case a12 => k_is); (case l12 => k_is); (case c12 => k_is); (case k12 => k_is); (case a13 => k_is); (case l13 => k_is); (case c13 => k_is); (case k13 => k_is); (case a14 => k_is); (case l14 => k_is); (case c14 => k_is); (case k14 => k_is); (case a15 => k_is); (case l15 => k_is); (case c15 => k_is); (case k15 => k_is); (case a16 => k_is); (case l16 => k_is); (case c16 => k_is); (case k16 => k_is); (case a17 => k_is); (case l17 => k_is); (case c17 => k_is); (case k17 => k_is); (case a18 => k_is); (case l18 => k_is); (case c18 => k_is); (case k18 => k_is); (case a19 => k_is); (case l19 => k_is); (case c19 => k_is); (case k19 => k_is); (case a20 => k_is); (case l20 => k_is); (case c20 => k_is); (case k20 => k_is); (case a21 => k_is); (case l21 => k_is); (case c21 => k_is); (case k21 => k_is); (case a22 => k_is); (case l22 => k_is); (case c22 => k_is); (case k22 => k_is); (case a23 => k_is); (case l23 => k_is); (case c23 => k_is); (case k23 => k_is); (case a24 => k_is); (case l24 => k_is); (case c24 => k_is); (case k24 => k_is); (case a25 => k_is); (case l25 => k_is); (case c25 => k_is); (case k25 => k_is); (case a26 => k_is); (case l26 => k_is); (case c26 => k_is); (case k26 => k_is); (case a27 => k_is); (case l27 => k_is); (case c27 => k_is); (case k27 => k_is); (case a28 => k_is); (case i28 => k_is); (case l28 => k_is); (case c28 => k_is); (case k28 => k_is); (case pw_Broad_names => k_is); (case pg_Broad_names => k_is); (case pt_Broad_names => k_is); (case pc_Broad_names => k_is); (case l29 => k_is); (case c29 => k_is); (case k29 => k_is); (case a30 => k_is); (case i30 => k_is); (case l30 => k_is); (case c30 => k_is); (case k30 => k_is); (case a31 => k_is); (case i31 => k_is); (case l31 => k_is); (case c31 => k_is); (case k31 => k_is); (case a32 => k_is); (case i32 => k_is); (case l32 => k_is); (case c32 => k_is); (case k32 => k_is); (case a33 => k_is); (case i33 => k_is); (case l33 => k_is); (case c33 => k_is); (case k33 => k_is); (case a34 => k_is); (case i34 => k_is); (case l34 => k_is); (case c34 => k_is); (case k34 => k_is); (case a35 => k_is); (case i35 => k_is); (case l35 => k_is); (case c35 => k_is); (case k35 => k_is); (case a36 => k_is); (case i36 => k_is); (case l36 => k_is); (case c36 => k_is); (case k36 => k_is); (case a37 => k_is); (case i37 => k_is); (case l37 => k_is); (case c37 => k_is); (case k37 => k_is); (case a38 => k_is); (case i38 => k_is); (case l38 => k_is); (case c38 => k_is); (case k38 => k_is); (case a39 => k_is); (case l39 => k_is); (case c39 => k_is); (case k39 => k_is); (case a40 => k_is); (case l40 => k_is); (case c40 => k_is); (case k40 => k_is); (case a41 => k_is); (case l41 => k_is); (case c41 => k_is); (case k41 => k_is); (case a42 => k_is); (case l42 => k_is); (case c42 => k_is); (case k42 => k_is); (case a43 => k_is); (case i43 => k_is); (case l43 => k_is); (case c43 => k_is); (case k43 => k_is); (case pw_Tree_names => k_is); (case pg_Tree_names => k_is); (case pt_Tree_names => k_is); (case pc_Tree_names => k_is); (case l44 => k_is); (case c44 => k_is); (case k44 => k_is); (case a45 => k_is); (case i45 => k_is); (case l45 => k_is); (case c45 => k_is); (case k45 => k_is); (case a46 => k_is); (case i46 => k_is); (case l46 => k_is); (case c46 => k_is); (case k46 => k_is); (case a47 => k_is); (case i47 => k_is); (case l47 => k_is); (case c47 => k_is); (case k47 => k_is); (case a48 => k_is); (case i48 => k_is); (case l48 => k_is); (case c48 => k_is); (case k48 => k_is); (case a49 => k_is); (case i49 => k_is); (case l49 => k_is); (case c49 => k_is); (case k49 => k_is); (case a50 => k_is); (case i50 => k_is); (case l50 => k_is); (case c50 => k_is); (case k50 => k_is); (case a51 => k_is); (case i51 => k_is); (case l51 => k_is); (case c51 => k_is); (case k51 => k_is); (case a52 => k_is); (case i52 => k_is); (case l52 => k_is); (case c52 => k_is); (case k52 => k_is); (case a53 => k_is); (case i53 => k_is); (case l53 => k_is); (case c53 => k_is); (case k53 => k_is); (case a54 => k_is); (case l54 => k_is); (case c54 => k_is); (case k54 => k_is); (case a55 => k_is); (case l55 => k_is); (case c55 => k_is); (case k55 => k_is); (case a56 => k_is); (case l56 => k_is); (case c56 => k_is); (case k56 => k_is); (case a57 => k_is); (case l57 => k_is); (case c57 => k_is); (case k57 => k_is); (case a58 => k_is); (case l58 => k_is); (case c58 => k_is); (case k58 => k_is); (case a59 => k_is); (case l59 => k_is); (case c59 => k_is); (case k59 => k_is); (case a60 => k_is); (case l60 => k_is); (case c60 => k_is); (case k60 => k_is); (case a61 => k_is); (case l61 => k_is); (case c61 => k_is); (case k61 => k_is); (case a62 => k_is); (case l62 => k_is); (case c62 => k_is); (case k62 => k_is); (case a63 => k_is); (case l63 => k_is); (case c63 => k_is); (case k63 => k_is); (case a64 => k_is); (case l64 => k_is); (case c64 => k_is); (case k64 => k_is); (case a65 => k_is); (case l65 => k_is); (case c65 => k_is); (case k65 => k_is); (case a66 => k_is); (case l66 => k_is); (case c66 => k_is); (case k66 => k_is); (case a67 => k_is); (case l67 => k_is); (case c67 => k_is); (case k67 => k_is); (case a68 => k_is); (case l68 => k_is); (case c68 => k_is); (case k68 => k_is); (case ce_ends_meet => rfl); (case u_ends_meet => k_is); (case uw_ends_meet => rfl); (case tn_ends_meet => kernel_rfl); (case tr_ends_meet => decide +kernel); (case ce_Tree_hit => rfl); (case u_Tree_hit => k_is); (case uw_Tree_hit => rfl); (case tn_Tree_hit => kernel_rfl); (case ch_Tree_hit => kernel_rfl); (case mi_Tree_hit => decide); (case ce_Tree_closest => rfl); (case u_Tree_closest => k_is); (case uw_Tree_closest => rfl); (case tn_Tree_closest => kernel_rfl); (case ch_Tree_closest => kernel_rfl); (case mi_Tree_closest => decide); (case df_ends_meet => decide); (case df1_ends_meet => decide); (case dl_ => decide); (case ka_ZERO => k_is); (case kl_ZERO => k_is); (case ka_ONE => k_is); (case kl_ONE => k_is); (case pg_Broad => k_is); (case hd_Broad => k_is); (case po_Broad => k_is); (case sa_Broad => k_is); (case mk_Broad => k_is); (case kc_Broad => k_is); (case na_Broad_boxes => k_is); (case na_Broad_ends => k_is); (case na_Broad_partners => k_is); (case pg_Tree => k_is); (case hd_Tree => k_is); (case po_Tree => k_is); (case sa_Tree => k_is); (case mk_Tree => k_is); (case kc_Tree => k_is); (case na_Tree__boxes => k_is); (case na_Tree__top => k_is); (case ea_ZeroDenominator => k_is); (case ex_ZeroDenominator => k_exc); (case ek_ZeroDenominator => k_is); (case eb_ZeroDenominator => k_is); (case et_ZeroDenominator => k_is); (case eh_ZeroDenominator => k_is); (case ea_BoxError => k_is); (case ex_BoxError => k_exc); (case ek_BoxError => k_is); (case eb_BoxError => k_is); (case et_BoxError => k_is); (case eh_BoxError => k_is); (case ea_IdError => k_is); (case ex_IdError => k_exc); (case ek_IdError => k_is); (case eb_IdError => k_is); (case et_IdError => k_is); (case eh_IdError => k_is); (case es_ZeroDenominator_ZeroDenominator => k_is); (case es_BoxError_BoxError => k_is); (case es_IdError_IdError => k_is); (case z_abs => k_is); (case z_all => k_is); (case z_int => k_is); (case z_len => k_is); (case z_list => k_is); (case z_max => k_is); (case z_range => k_is); (case z_sorted => k_is); (case z_tuple => k_is); (case z_zip => k_is); (case z_gcd => k_is)
