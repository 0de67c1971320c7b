import PyProof.Rows.All
import Wide.All
import OpenK.AllK
import Wide.FinOn
import PySem.Challenge.RW_steadybodies_k46_texts_of_runs
import HandS.ForMost
import HandS.ForExc
import HandS.Wide
import HandS.Gcd
import HandS.IsInst
import HandS.ExcIs
import HandS.Deep
import HandS.Zip
import KE.GoesNew
import HandS.GenList
import KE.KDictZip
import KE.KTurns
import HandS.EndTab
import HandS.AnyAll
import HandS.HotCalls
import HandS.TupAny
import HandS.TupMul
import HandS.DictComp
import HandS.SortRule
import HandS.Sort
import KE.KDictPairs
import KE.KEqDict
import HandS.DictTup
import HandS.TryOnly
import HandS.Lambda
import KE.SortKeyHeap
import HandS.Text
import HandS.StrMore
import HandS.WideBits
import HandS.MapJoin
import HandS.Iter
import PyProof.CollectIter
import KE.KIntText
import PyProof.Rows.Digits
import HandS.FStr
import HandS.Strs
import HandS.Style
set_option Elab.async false
set_option linter.all false
set_option maxRecDepth 100000
set_option maxHeartbeats 4000000
set_option exponentiation.threshold 10000
/-! A layer over the hand layer: big steps over data. -/
namespace PL
open PySem PySem.Spec PyProof.Rows L2

/-- the names of the lambdas that tables of code objects tell of -/
class Nm where
  nm : Addr → Str
/-- tables of code objects: of generators, of lambdas -/
structure Tbs where
  gs : List Addr
  ls : List Addr
/-- a value as data, or the address of an object that may change -/
inductive Dat where
  | d (x : PyData)
  | r (a : Addr)
  | l (ds : List PyData)
  | k (kvs : List (Key × PyData))
  | u (xs : List PyData)
abbrev Dat.i (n : Int) : Dat := .d (.int n)
abbrev Dat.b (b : Bool) : Dat := .d (.bool b)
abbrev Dat.t (xs : List PyData) : Dat := .d (.tuple xs)

/-- o stands where it stood; a code object's table may have grown -/
def Kpt (o : HO) (x : Option HO) : Prop := match o with
  | .tbl ps => ∃ qs : Array Value, x = some (.tbl qs) ∧ (TriplesOk ps.toList → TriplesOk qs.toList)
  | o => x = some o
theorem Kpt.of {o : HO} {x : Option HO} (h : x = some o) : Kpt o x := by
  cases o with
  | tbl ps => exact ⟨ps, h, id⟩
  | _ => exact h
theorem Kpt.some {o : HO} {x : Option HO} (h : Kpt o x) : ∃ u, x = some u ∧ ((∀ ps, o ≠ .tbl ps) → u = o) := by
  cases o with
  | tbl ps =>
    obtain ⟨qs, e, _⟩ := h
    exact ⟨_, e, fun z => (z ps rfl).elim⟩
  | _ => exact ⟨_, h, fun _ => rfl⟩
theorem Kpt.trans {o : HO} {x y : Option HO} (h : Kpt o x) (g : ∀ u, x = Option.some u → Kpt u y) : Kpt o y := by
  cases o with
  | tbl ps =>
    obtain ⟨qs, e, t⟩ := h
    obtain ⟨rs, e2, t2⟩ := g _ e
    exact ⟨rs, e2, fun z => t2 (t z)⟩
  | _ => exact g _ h
def Same (H H' : Hp) : Prop := ∀ b o, H b = some o → Kpt o (H' b)
theorem Same.refl (H : Hp) : Same H H := fun _ _ h => .of h
theorem Same.trans {H H1 H2 : Hp} (a : Same H H1) (b : Same H1 H2) : Same H H2 := fun c o h => (a c o h).trans fun u e => b c u e
theorem Same.free {H H' : Hp} (e : Same H H') {l : Addr} (h : H' l = none) : H l = none := by
  cases z : H l with
  | none => rfl
  | some o =>
    obtain ⟨u, hu, _⟩ := (e l o z).some
    rw [h] at hu
    cases hu
theorem Same.seq {K : PySem.W.Frag} {H H' : Hp} {a : Addr} {xs : List V} (e : Same H H') (h : SqL K H a xs) : SqL K H' a xs := by
  rcases h with (h | ⟨o, h⟩) | h
  · exact .inl (.inl (e _ _ h))
  · exact .inl (.inr ⟨o, e _ _ h⟩)
  · exact .inr h

section
variable {K : PySem.W.Frag} {G H G1 H1 G2 H2 H' : Hp}
theorem same_new {p : Addr} {o : HO} (h : H p = none) : Same H (upd H p o) := fun a u e => by
  rw [upd_ne (ne_of_none e h)]
  exact .of e
theorem same_t {a : Addr} {xs : List V} (e : Same H H') (h : SqT K H a xs) : SqT K H' a xs := by
  rcases h with (h | ⟨o, h⟩) | h
  · exact .inl (.inl (e _ _ h))
  · exact .inl (.inr ⟨o, e _ _ h⟩)
  · exact .inr h
mutual
theorem dp_mono (e : Same H H') : ∀ (d : PyData) (v : V), Dp K H v d → Dp K H' v d
  | .none, _, h => by cases h; exact .non
  | .bool b, _, h => by cases h; exact .bl b
  | .int i, _, h => by cases h; exact .int i
  | .str x, _, h => by cases h; exact .str x
  | .list ds, _, h => by
    cases h with
    | lst a b => exact .lst (e.seq a) (dp_monos e ds _ b)
  | .tuple ds, _, h => by
    cases h with
    | tup a b => exact .tup (same_t e a) (dp_monos e ds _ b)
  | .dict _, _, h => by cases h
theorem dp_monos (e : Same H H') : ∀ (ds : List PyData) (vs : List V), DpAll K H vs ds → DpAll K H' vs ds
  | [], _, h => by cases h; exact .nil
  | d :: ds, _, h => by
    cases h with
    | cons a b => exact .cons (dp_mono e d _ a) (dp_monos e ds _ b)
end
theorem dpa_get : ∀ {vs : List V} {ds : List PyData} {i : Nat} {d : PyData}, DpAll K G vs ds → ds[i]? = some d → ∃ v, vs[i]? = some v ∧ Dp K G v d
  | _, _, _, _, .nil, e => by simp at e
  | _, _, 0, _, .cons a _, e => by
    simp at e
    subst e
    exact ⟨_, rfl, a⟩
  | _, _, i + 1, d, .cons _ b, e => by
    obtain ⟨v, h1, h2⟩ := dpa_get (i := i) (d := d) b (by simpa using e)
    exact ⟨v, by simpa using h1, h2⟩
theorem dpa_len : ∀ {vs : List V} {ds : List PyData}, DpAll K G vs ds → vs.length = ds.length
  | _, _, .nil => rfl
  | _, _, .cons _ b => by
    rw [List.length_cons, List.length_cons, dpa_len b]
theorem dpa_ints : ∀ (ns : List Int), DpAll K G (ns.map V.int) (ns.map PyData.int)
  | [] => .nil
  | n :: ns => .cons (.int n) (dpa_ints ns)
theorem dpa_app : ∀ {vs ws : List V} {ds es : List PyData}, DpAll K G vs ds → DpAll K G ws es → DpAll K G (vs ++ ws) (ds ++ es)
  | _, _, _, _, .nil, h => h
  | _, _, _, _, .cons a b, h => .cons a (dpa_app b h)

/-- a dict's items as data -/
def KvAll (K : PySem.W.Frag) (G : Hp) (vs : List (Key × V)) (kvs : List (Key × PyData)) : Prop := vs.map (·.1) = kvs.map (·.1) ∧ DpAll K G (vs.map (·.2)) (kvs.map (·.2))
def Dv (K : PySem.W.Frag) (G : Hp) (v : V) : Dat → Prop
  | .d x => Dp K G v x
  | .r a => v = .ref a
  | .l ds => ∃ a vs, v = .ref a ∧ G a = some (.lst vs) ∧ DpAll K G vs ds
  | .k kvs => ∃ a vs, v = .ref a ∧ G a = some (.dK vs) ∧ KvAll K G vs kvs
  | .u xs => ∃ a o vs, v = .ref a ∧ G a = some (.frz o (.tup vs)) ∧ o.dict = none ∧ DpAll K G vs xs
theorem dv_mono {v : V} {d : Dat} (e : Same H H') (h : Dv K H v d) : Dv K H' v d := by
  cases d with
  | d x => exact dp_mono e x v h
  | r a => exact h
  | l ds =>
    obtain ⟨a, vs, h1, h2, h3⟩ := h
    exact ⟨a, vs, h1, e _ _ h2, dp_monos e ds vs h3⟩
  | k kvs =>
    obtain ⟨a, vs, h1, h2, h3⟩ := h
    exact ⟨a, vs, h1, e _ _ h2, h3.1, dp_monos e _ _ h3.2⟩
  | u xs =>
    obtain ⟨a, o, vs, h1, h2, h3, h4⟩ := h
    exact ⟨a, o, vs, h1, e _ _ h2, h3, dp_monos e _ _ h4⟩
def DvAll (K : PySem.W.Frag) (G : Hp) : List V → List Dat → Prop
  | [], [] => True
  | v :: vs, d :: ds => Dv K G v d ∧ DvAll K G vs ds
  | [], _ :: _ => False
  | _ :: _, [] => False
theorem dva_mono (e : Same H H') : ∀ {vs : List V} {ds : List Dat}, DvAll K H vs ds → DvAll K H' vs ds
  | [], [], _ => trivial
  | _ :: _, _ :: _, h => ⟨dv_mono e h.1, dva_mono e h.2⟩
  | [], _ :: _, h => h.elim
  | _ :: _, [], h => h.elim
theorem dva_len : ∀ {vs : List V} {ds : List Dat}, DvAll K H vs ds → vs.length = ds.length
  | [], [], _ => rfl
  | _ :: vs, _ :: ds, h => by
    rw [List.length_cons, List.length_cons, dva_len h.2]
  | [], _ :: _, h => h.elim
  | _ :: _, [], h => h.elim
theorem dva_dp : ∀ {vs : List V} {ds : List PyData}, DvAll K H vs (ds.map Dat.d) → DpAll K H vs ds
  | [], [], _ => .nil
  | _ :: _, _ :: _, h => .cons h.1 (dva_dp h.2)
  | [], _ :: _, h => h.elim
  | _ :: _, [], h => h.elim
def SlD (K : PySem.W.Frag) (G : Hp) (s : Option V) : Option Dat → Prop
  | none => True
  | some d => ∃ v, s = some v ∧ Dv K G v d
theorem sld_mono {s : Option V} {o : Option Dat} (e : Same H H') (h : SlD K H s o) : SlD K H' s o := by
  cases o with
  | none => trivial
  | some d =>
    obtain ⟨v, h1, h2⟩ := h
    exact ⟨v, h1, dv_mono e h2⟩
abbrev Rho := List (Option Dat)
def EnvD (K : PySem.W.Frag) (G : Hp) : List (Option V) → Rho → Prop
  | [], [] => True
  | s :: σ, o :: ρ => SlD K G s o ∧ EnvD K G σ ρ
  | [], _ :: _ => False
  | _ :: _, [] => False
theorem env_mono (e : Same H H') : ∀ {σ : List (Option V)} {ρ : Rho}, EnvD K H σ ρ → EnvD K H' σ ρ
  | [], [], _ => trivial
  | _ :: _, _ :: _, h => ⟨sld_mono e h.1, env_mono e h.2⟩
  | [], _ :: _, h => h.elim
  | _ :: _, [], h => h.elim
theorem env_get : ∀ {σ : List (Option V)} {ρ : Rho} {i : Nat} {d : Dat}, EnvD K G σ ρ → ρ[i]? = some (some d) → ∃ v, σ[i]? = some (some v) ∧ Dv K G v d
  | [], [], _, _, _, e => by simp at e
  | _ :: _, _ :: _, 0, d, h, e => by
    simp at e
    subst e
    obtain ⟨v, h1, h2⟩ := h.1
    exact ⟨v, by simp [h1], h2⟩
  | _ :: σ, _ :: ρ, i + 1, d, h, e => by
    obtain ⟨v, h1, h2⟩ := env_get (i := i) (d := d) h.2 (by simpa using e)
    exact ⟨v, by simpa using h1, h2⟩
  | [], _ :: _, _, _, h, _ => h.elim
  | _ :: _, [], _, _, h, _ => h.elim
theorem env_set {v : V} {d : Dat} (hv : Dv K G v d) : ∀ {σ : List (Option V)} {ρ : Rho} {i : Nat}, EnvD K G σ ρ → EnvD K G (σ.set i (some v)) (ρ.set i (some d))
  | [], [], _, _ => trivial
  | _ :: _, _ :: _, 0, h => ⟨⟨v, rfl, hv⟩, h.2⟩
  | _ :: σ, _ :: ρ, i + 1, h => ⟨h.1, env_set hv (i := i) h.2⟩
  | [], _ :: _, _, h => h.elim
  | _ :: _, [], _, h => h.elim
/-- less is known -/
def Less : Rho → Rho → Prop
  | [], [] => True
  | a :: ρ, b :: ρ' => (b = none ∨ a = b) ∧ Less ρ ρ'
  | [], _ :: _ => False
  | _ :: _, [] => False
theorem env_less : ∀ {σ : List (Option V)} {ρ ρ' : Rho}, Less ρ ρ' → EnvD K G σ ρ → EnvD K G σ ρ'
  | [], [], [], _, _ => trivial
  | _ :: _, _ :: _, _ :: _, l, h => ⟨by
      rcases l.1 with e | e
      · rw [e]; trivial
      · rw [← e]; exact h.1, env_less l.2 h.2⟩
  | _, [], _ :: _, l, _ => l.elim
  | _, _ :: _, [], l, _ => l.elim
  | [], _ :: _, _, _, h => h.elim
  | _ :: _, [], _, _, h => h.elim
theorem env_nones : ∀ (n : Nat), EnvD K G (List.replicate n none) (List.replicate n none)
  | 0 => trivial
  | n + 1 => ⟨trivial, env_nones n⟩
theorem env_start : ∀ {vs : List V} {ds : List Dat} (n : Nat), DvAll K G vs ds → EnvD K G (vs.map some ++ List.replicate n none) (ds.map some ++ List.replicate n none)
  | [], [], n, _ => env_nones n
  | v :: _, _ :: _, n, h => ⟨⟨v, rfl, h.1⟩, env_start n h.2⟩
  | [], _ :: _, _, h => h.elim
  | _ :: _, [], _, h => h.elim

/-! ### steps of the heap; what is said of it -/
variable [Nm]
/-- the table at P tells lambdas of its name alone, and is told of to nobody -/
def LamT (G H : Hp) (P : Addr) : Prop := G P = none ∧ LamX.TabS H P (Nm.nm P)
/-- all that the table leans on stays -/
theorem LamT.keep {G G' H H' : Hp} {P : Addr} (t : LamT G H P) (g : G P = none → G' P = none) (h : ∀ b o, H b = some o → (∀ ps, o ≠ .tbl ps ∨ b = P) → ((∃ ps, o = .tbl ps) ∨ ∃ f, o = .ext f) → H' b = some o) : LamT G' H' P := by
  obtain ⟨t0, ps, t1, t2, t3⟩ := t
  refine ⟨g t0, ps, h P _ t1 (fun _ => .inr rfl) (.inl ⟨ps, rfl⟩), t2, fun pos cv hc => ?_⟩
  obtain ⟨c, e1, e2⟩ := t3 pos cv hc
  exact ⟨c, e1, h c _ e2 (fun ps' => .inl (LamX.codeO_ne ps')) (.inr ⟨_, rfl⟩)⟩
theorem LamT.some {G H : Hp} {P : Addr} (t : LamT G H P) : ∃ ps, H P = Option.some (HO.tbl ps) := let ⟨_, ps, h, _⟩ := t; ⟨ps, h⟩
structure Stp (M : Addr → Prop) (G H G2 H2 : Hp) : Prop where
  gg : Same G G2
  gh : Same G2 H2
  hh : ∀ a o, ¬ M a → H a = some o → Kpt o (H2 a)
  fr : ∀ a o, ¬ M a → H a = some o → G a = none → G2 a = none
  ex : ∀ a o, H a = some o → ∃ u, H2 a = some u
  lt : ∀ P, LamT G H P → LamT G2 H2 P
abbrev NoA : Addr → Prop := fun _ => False
theorem Stp.refl {M : Addr → Prop} (h : Same G H) : Stp M G H G H := ⟨Same.refl _, h, fun _ _ _ e => .of e, fun _ _ _ _ e => e, fun _ o e => ⟨o, e⟩, fun _ t => t⟩
theorem Stp.trans {M : Addr → Prop} (a : Stp M G H G1 H1) (b : Stp M G1 H1 G2 H2) : Stp M G H G2 H2 :=
  ⟨a.gg.trans b.gg, b.gh, fun c o n e => (a.hh c o n e).trans fun u z => b.hh c u n z, fun c o m e n => by
    obtain ⟨u, hu⟩ := a.ex c o e
    exact b.fr c u m hu (a.fr c o m e n), fun c o e => by
    obtain ⟨u, hu⟩ := a.ex c o e
    exact b.ex c u hu, fun P t => b.lt P (a.lt P t)⟩
theorem Stp.wide {M M' : Addr → Prop} (h : ∀ a, M a → M' a) (a : Stp M G H G2 H2) : Stp M' G H G2 H2 :=
  ⟨a.gg, a.gh, fun c o n e => a.hh c o (fun z => n (h c z)) e, fun c o n => a.fr c o (fun z => n (h c z)), a.ex, a.lt⟩
/-- a new object that never changes -/
theorem Stp.new {p : Addr} {o : HO} (h : Same G H) (hp : H p = none) : Stp NoA G H (upd G p o) (upd H p o) := by
  have gp : G p = none := h.free hp
  refine ⟨same_new gp, fun a u e => ?_, fun a u _ e => ?_, fun a u _ e n => ?_, fun a u e => ?_, fun P t => ?_⟩
  · by_cases z : a = p
    · subst z
      rw [upd_same] at e ⊢
      exact .of e
    · rw [upd_ne z] at e ⊢
      exact h a u e
  · rw [upd_ne (ne_of_none e hp)]
    exact .of e
  · rw [upd_ne (ne_of_none e hp)]
    exact n
  · exact ⟨u, by rw [upd_ne (ne_of_none e hp)]; exact e⟩
  · obtain ⟨ps, hP⟩ := t.some
    exact t.keep (fun g => by rw [upd_ne (ne_of_none hP hp)]; exact g) fun b o e _ _ => by rw [upd_ne (ne_of_none e hp)]; exact e
/-- a new object that may change -/
theorem Stp.newM {p : Addr} {o : HO} (h : Same G H) (hp : H p = none) : Stp NoA G H G (upd H p o) :=
  ⟨Same.refl _, h.trans (same_new hp), fun a u _ e => by rw [upd_ne (ne_of_none e hp)]; exact .of e, fun _ _ _ _ n => n, fun a u e => ⟨u, by rw [upd_ne (ne_of_none e hp)]; exact e⟩, fun P t => t.keep (fun g => g) fun b o e _ _ => by rw [upd_ne (ne_of_none e hp)]; exact e⟩
/-- a store -/
theorem Stp.store {p : Addr} {o u : HO} (h : Same G H) (gp : G p = none) (hp : H p = some u) (nt : (∀ ps, u ≠ .tbl ps) ∧ ∀ f, u ≠ .ext f := by exact ⟨fun _ z => (by cases z), fun _ z => (by cases z)⟩) : Stp (· = p) G H G (upd H p o) :=
  ⟨Same.refl _, fun a x e => by
    rw [upd_ne (ne_of_none e gp)]
    exact h a x e, fun a x n e => by
    rw [upd_ne n]
    exact .of e, fun _ _ _ _ n => n, fun a x e => by
    by_cases z : a = p
    · subst z
      exact ⟨o, upd_same⟩
    · exact ⟨x, by rw [upd_ne z]; exact e⟩, fun P t => t.keep (fun g => g) fun b x e _ k => by
    have ne : b ≠ p := fun z => by
      rw [z, hp] at e
      rcases k with ⟨ps, k⟩ | ⟨f, k⟩
      · exact nt.1 ps ((Option.some.inj e).trans k)
      · exact nt.2 f ((Option.some.inj e).trans k)
    rw [upd_ne ne]
    exact e⟩
/-- a table grows -/
theorem Stp.tab {p : Addr} {ps qs : Array Value} (h : Same G H) (gp : G p ≠ none) (hp : H p = some (.tbl ps)) (t : TriplesOk ps.toList → TriplesOk qs.toList) : Stp NoA G H G (upd H p (.tbl qs)) := by
  have k : ∀ a x, H a = some x → Kpt x (upd H p (.tbl qs) a) := fun a x e => by
    by_cases z : a = p
    · subst z
      rw [hp] at e
      cases e
      exact ⟨qs, upd_same, t⟩
    · rw [upd_ne z]
      exact .of e
  exact ⟨Same.refl _, fun a x e => (h a x e).trans fun u z => k a u z, fun a x _ e => k a x e, fun _ _ _ _ n => n, fun a x e => let ⟨u, z, _⟩ := (k a x e).some; ⟨u, z⟩, fun P t => t.keep (fun g => g) fun b x e n _ => by
    have ne : b ≠ p := fun z => by
      rw [z, hp] at e
      rcases n ps with n | n
      · exact n (Option.some.inj e).symm
      · exact gp (by rw [← z, n]; exact t.1)
    rw [upd_ne ne]
    exact e⟩
/-- a lambda is made -/
theorem Stp.lam {P : Addr} {q : Str} (h : Same G H) (t : LamT G H P) (hq : Nm.nm P = q) (k : ∀ b o, b ≠ P → H b = some o → H2 b = some o) (t2 : LamX.TabS H2 P q) : Stp NoA G H G H2 := by
  obtain ⟨ps, hP, hT, _⟩ := t.2
  have t3 := t2
  obtain ⟨qs, hQ, hS, _⟩ := t2
  have nG : ∀ a o, G a = some o → a ≠ P := fun a o e z => by
    rw [z, t.1] at e
    cases e
  refine ⟨Same.refl _, fun a o e => (h a o e).trans fun u z => .of (k a u (nG a o e) z), fun a o _ e => ?_, fun _ _ _ _ n => n, fun a o e => ?_, fun Q tQ => ?_⟩
  · by_cases z : a = P
    · rw [z] at e ⊢
      rw [hP] at e
      cases e
      exact ⟨qs, hQ, fun _ => hS⟩
    · exact .of (k a o z e)
  · by_cases z : a = P
    · rw [z]
      exact ⟨_, hQ⟩
    · exact ⟨o, k a o z e⟩
  · by_cases z : Q = P
    · rw [z]
      refine ⟨t.1, ?_⟩
      rw [hq]
      exact t3
    · refine tQ.keep (fun g => g) fun b o e n _ => k b o (fun y => ?_) e
      rw [y, hP] at e
      rcases n ps with n | n
      · exact n (Option.some.inj e).symm
      · exact z (by rw [← n, y])
/-- the tables at these places are known -/
def TabsIn (T : Tbs) (G H : Hp) : Prop := (∀ p ∈ T.gs, ∃ ps : Array Value, G p = some (.tbl ps) ∧ TriplesOk ps.toList) ∧ ∀ P ∈ T.ls, LamT G H P
theorem TabsIn.go {M : Addr → Prop} {T : Tbs} (h : TabsIn T G H) (s : Stp M G H G2 H2) : TabsIn T G2 H2 := ⟨fun p hp => by
  obtain ⟨ps, e1, t⟩ := h.1 p hp
  obtain ⟨qs, e2, t2⟩ := s.gg p _ e1
  exact ⟨qs, e2, t2 t⟩, fun P hP => s.lt P (h.2 P hP)⟩
structure Asn where
  foot : Addr → Prop
  ok : Hp → Hp → Prop
  st : ∀ (M : Addr → Prop) (G H G2 H2 : Hp), (∀ a, foot a → ¬ M a) → Stp M G H G2 H2 → ok G H → ok G2 H2
  own : ∀ (G H : Hp) (a : Addr), ok G H → foot a → ∃ o, H a = some o
theorem Asn.pure_st {I : Asn} (s : Stp NoA G H G2 H2) (h : I.ok G H) : I.ok G2 H2 := I.st NoA G H G2 H2 (fun _ _ z => z) s h
def Asn.tt : Asn := ⟨NoA, fun _ _ => True, fun _ _ _ _ _ _ _ _ => trivial, fun _ _ _ _ z => z.elim⟩
def Asn.and (I J : Asn) : Asn := ⟨fun a => I.foot a ∨ J.foot a, fun G H => I.ok G H ∧ J.ok G H, fun M G H G2 H2 n s h => ⟨I.st M G H G2 H2 (fun a z => n a (.inl z)) s h.1, J.st M G H G2 H2 (fun a z => n a (.inr z)) s h.2⟩, fun G H a h z => z.elim (I.own G H a h.1) (J.own G H a h.2)⟩
/-- all that was, but M's, stands as it stood -/
def Asn.since (M : Addr → Prop) (G0 H0 : Hp) : Asn := ⟨fun a => ¬ M a ∧ ∃ o, H0 a = some o, fun G H => Stp M G0 H0 G H, fun M' G H G2 H2 n s h =>
  ⟨h.gg.trans s.gg, s.gh, fun a o m e => (h.hh a o m e).trans fun u z => s.hh a u (n a ⟨m, o, e⟩) z, fun a o m e g => by
    obtain ⟨u, hu⟩ := h.ex a o e
    exact s.fr a u (n a ⟨m, o, e⟩) hu (h.fr a o m e g), fun a o e => by
    obtain ⟨u, hu⟩ := h.ex a o e
    exact s.ex a u hu, fun P t => s.lt P (h.lt P t)⟩, fun G H a h ⟨_, o, e⟩ => h.ex a o e⟩

/-! ### judgements -/
def E (K : PySem.W.Frag) (te : TE) (ρ : Rho) (I : Asn) (d : Dat) (J : Asn) : Prop :=
  ∀ G H σ, Same G H → EnvD K G σ ρ → I.ok G H → ∀ Q : VK, (∀ v G2 H2, Same G G2 → Same G2 H2 → J.ok G2 H2 → Dv K G2 v d → Q v H2) → te σ H Q
def A (K : PySem.W.Frag) (ta : TA) (ρ : Rho) (I : Asn) (ds : List Dat) (J : Asn) : Prop :=
  ∀ G H σ, Same G H → EnvD K G σ ρ → I.ok G H → ∀ Q : List V → Hp → Prop, (∀ vs G2 H2, Same G G2 → Same G2 H2 → J.ok G2 H2 → DvAll K G2 vs ds → Q vs H2) → ta σ H Q
def T (K : PySem.W.Frag) (tt : TT) (ρ : Rho) (I : Asn) (b : Bool) (J : Asn) : Prop :=
  ∀ G H σ, Same G H → EnvD K G σ ρ → I.ok G H → ∀ Q : Bool → Hp → Prop, (∀ G2 H2, Same G G2 → Same G2 H2 → J.ok G2 H2 → Q b H2) → tt σ H Q
inductive Out where
  | nx (ρ : Rho) (J : Asn)
  | rt (d : Dat) (J : Asn)
  | bk (ρ : Rho) (J : Asn)
  | ct (ρ : Rho) (J : Asn)
  | fin (P : V → Hp → Hp → Prop)
  | ne (P : Rho → Asn → Prop)
def Fin (K : PySem.W.Frag) (D : Ends) (G : Hp) : Out → Prop
  | .nx ρ J => ∀ G2 H2 σ, Same G G2 → Same G2 H2 → EnvD K G2 σ ρ → J.ok G2 H2 → D.nx σ H2
  | .bk ρ J => ∀ G2 H2 σ, Same G G2 → Same G2 H2 → EnvD K G2 σ ρ → J.ok G2 H2 → D.bk σ H2
  | .ct ρ J => ∀ G2 H2 σ, Same G G2 → Same G2 H2 → EnvD K G2 σ ρ → J.ok G2 H2 → D.ct σ H2
  | .rt d J => ∀ v G2 H2, Same G G2 → Same G2 H2 → J.ok G2 H2 → Dv K G2 v d → D.rt v H2
  | .fin P => ∀ v G2 H2, Same G G2 → Same G2 H2 → P v G2 H2 → D.rt v H2
  | .ne P => ∀ ρ J, P ρ J → ∀ G2 H2 σ, Same G G2 → Same G2 H2 → EnvD K G2 σ ρ → J.ok G2 H2 → D.nx σ H2
theorem Fin.mono {D : Ends} {k : Out} (e : Same G G1) (h : Fin K D G k) : Fin K D G1 k := by
  cases k with
  | nx ρ J => exact fun G2 H2 σ a => h G2 H2 σ (e.trans a)
  | bk ρ J => exact fun G2 H2 σ a => h G2 H2 σ (e.trans a)
  | ct ρ J => exact fun G2 H2 σ a => h G2 H2 σ (e.trans a)
  | rt d J => exact fun v G2 H2 a => h v G2 H2 (e.trans a)
  | fin P => exact fun v G2 H2 a => h v G2 H2 (e.trans a)
  | ne P => exact fun ρ J p G2 H2 σ a => h ρ J p G2 H2 σ (e.trans a)
def S (K : PySem.W.Frag) (t : TS) (ρ : Rho) (I : Asn) (k : Out) : Prop :=
  ∀ G H σ (D : Ends), Same G H → EnvD K G σ ρ → I.ok G H → Fin K D G k → t D σ H
end

variable [Nm]
section
variable {K : PySem.W.Frag} {ρ ρ1 : Rho} {I J L N : Asn} {ta tb tc te : TE} {d e : Dat} {t u : TT} {b c : Bool}
/-! ### expressions -/
theorem e_var {i : Nat} (h : ρ[i]? = some (some d)) : E K (tVar i) ρ I d I := fun G H σ gh en io Q q => by
  obtain ⟨v, h1, h2⟩ := env_get en h
  exact ⟨v, h1, q v G H (Same.refl _) gh io h2⟩
theorem e_int {i : Int} : E K (tC (.int i)) ρ I (.i i) I := fun G H σ gh en io Q q => q _ G H (Same.refl _) gh io (.int i)
theorem e_bl {i : Bool} : E K (tC (.bl i)) ρ I (.b i) I := fun G H σ gh en io Q q => q _ G H (Same.refl _) gh io (.bl i)
theorem e_str {i : Str} : E K (tC (.str i)) ρ I (.d (.str i)) I := fun G H σ gh en io Q q => q _ G H (Same.refl _) gh io (.str i)
theorem e_non : E K (tC .non) ρ I (.d .none) I := fun G H σ gh en io Q q => q _ G H (Same.refl _) gh io .non
/-- a two-place operation on values -/
theorem e_op {r : R2} {f : Dat} (ha : E K ta ρ I d J) (hb : E K tb ρ J e L) (hr : ∀ G H x y, Same G H → L.ok G H → Dv K G x d → Dv K G y e → ∀ Q : VK, (∀ v G2 H2, Same G G2 → Same G2 H2 → N.ok G2 H2 → Dv K G2 v f → Q v H2) → r x y H Q) : E K (tOp r ta tb) ρ I f N :=
  fun G H σ gh en io Q q => ha G H σ gh en io _ fun x G1 H1 g1 gh1 j1 dx => hb G1 H1 σ gh1 (env_mono g1 en) j1 _ fun y G2 H2 g2 gh2 j2 dy =>
    hr G2 H2 x y gh2 j2 (dv_mono g2 dx) dy Q fun v G3 H3 g3 => q v G3 H3 ((g1.trans g2).trans g3)
theorem dv_int {G : Hp} {x : V} {i : Int} (h : Dv K G x (.i i)) : x = .int i := by
  cases h
  rfl
theorem dv_bl {G : Hp} {x : V} {i : Bool} (h : Dv K G x (.b i)) : x = .bl i := by
  cases h
  rfl
theorem dv_str {G : Hp} {x : V} {i : Str} (h : Dv K G x (.d (.str i))) : x = .str i := by
  cases h
  rfl
theorem e_I0 {f : Int → Int → Int} {i j : Int} (ha : E K ta ρ I (.i i) J) (hb : E K tb ρ J (.i j) L) : E K (tOp (rI0 fun i j => .int (f i j)) ta tb) ρ I (.i (f i j)) L :=
  e_op ha hb fun G H x y gh lo dx dy Q q => ⟨i, j, dv_int dx, dv_int dy, q _ G H (Same.refl _) gh lo (.int _)⟩
theorem e_I {C : Int → Int → Prop} {f : Int → Int → Int} {i j : Int} (ha : E K ta ρ I (.i i) J) (hb : E K tb ρ J (.i j) L) (hc : C i j) : E K (tOp (rI C fun i j => .int (f i j)) ta tb) ρ I (.i (f i j)) L :=
  e_op ha hb fun G H x y gh lo dx dy Q q => ⟨i, j, dv_int dx, dv_int dy, hc, q _ G H (Same.refl _) gh lo (.int _)⟩
theorem e_B0 {f : Int → Int → Bool} {i j : Int} (ha : E K ta ρ I (.i i) J) (hb : E K tb ρ J (.i j) L) : E K (tOp (rI0 fun i j => .bl (f i j)) ta tb) ρ I (.b (f i j)) L :=
  e_op ha hb fun G H x y gh lo dx dy Q q => ⟨i, j, dv_int dx, dv_int dy, q _ G H (Same.refl _) gh lo (.bl _)⟩
theorem e_add {i j : Int} (ha : E K ta ρ I (.i i) J) (hb : E K tb ρ J (.i j) L) : E K (tOp (rI0 fun i j => .int (i + j)) ta tb) ρ I (.i (i + j)) L := e_I0 (f := fun i j => i + j) ha hb
theorem e_sub {i j : Int} (ha : E K ta ρ I (.i i) J) (hb : E K tb ρ J (.i j) L) : E K (tOp (rI0 fun i j => .int (i - j)) ta tb) ρ I (.i (i - j)) L := e_I0 (f := fun i j => i - j) ha hb
theorem e_mul {i j : Int} (ha : E K ta ρ I (.i i) J) (hb : E K tb ρ J (.i j) L) (hc : CMulW i j) : E K (tOp (rI CMulW fun i j => .int (i * j)) ta tb) ρ I (.i (i * j)) L := e_I (f := fun i j => i * j) ha hb hc
theorem e_mul0 {i j : Int} (ha : E K ta ρ I (.i i) J) (hb : E K tb ρ J (.i j) L) (hc : CMul i j) : E K (tOp (rI CMul fun i j => .int (i * j)) ta tb) ρ I (.i (i * j)) L := e_I (f := fun i j => i * j) ha hb hc
theorem e_div {i j : Int} (ha : E K ta ρ I (.i i) J) (hb : E K tb ρ J (.i j) L) (hc : CDivW i j) : E K (tOp (rI CDivW fun i j => .int (i / j)) ta tb) ρ I (.i (i / j)) L := e_I (f := fun i j => i / j) ha hb hc
theorem e_mod {i j : Int} (ha : E K ta ρ I (.i i) J) (hb : E K tb ρ J (.i j) L) (hc : 0 < j) : E K (tOp (rI (fun _ j => 0 < j) fun i j => .int (i % j)) ta tb) ρ I (.i (i % j)) L := e_I (f := fun i j => i % j) ha hb hc
theorem e_pow {i j : Int} (ha : E K ta ρ I (.i i) J) (hb : E K tb ρ J (.i j) L) (hc : CPow i j) : E K (tOp (rI CPow fun i j => .int (i ^ j.toNat)) ta tb) ρ I (.i (i ^ j.toNat)) L := e_I (f := fun i j => i ^ j.toNat) ha hb hc
theorem e_lt {i j : Int} (ha : E K ta ρ I (.i i) J) (hb : E K tb ρ J (.i j) L) : E K (tOp (rI0 fun i j => .bl (decide (i < j))) ta tb) ρ I (.b (decide (i < j))) L := e_B0 (f := fun i j => decide (i < j)) ha hb
theorem e_le {i j : Int} (ha : E K ta ρ I (.i i) J) (hb : E K tb ρ J (.i j) L) : E K (tOp (rI0 fun i j => .bl (decide (i ≤ j))) ta tb) ρ I (.b (decide (i ≤ j))) L := e_B0 (f := fun i j => decide (i ≤ j)) ha hb
theorem e_gt {i j : Int} (ha : E K ta ρ I (.i i) J) (hb : E K tb ρ J (.i j) L) : E K (tOp (rI0 fun i j => .bl (decide (j < i))) ta tb) ρ I (.b (decide (j < i))) L := e_B0 (f := fun i j => decide (j < i)) ha hb
theorem e_ge {i j : Int} (ha : E K ta ρ I (.i i) J) (hb : E K tb ρ J (.i j) L) : E K (tOp (rI0 fun i j => .bl (decide (j ≤ i))) ta tb) ρ I (.b (decide (j ≤ i))) L := e_B0 (f := fun i j => decide (j ≤ i)) ha hb
theorem e_eqI {i j : Int} (ha : E K ta ρ I (.i i) J) (hb : E K tb ρ J (.i j) L) : E K (tOp rEq ta tb) ρ I (.b (decide (i = j))) L :=
  e_op ha hb fun G H x y gh lo dx dy Q q => by
    obtain rfl := dv_int dx
    obtain rfl := dv_int dy
    refine ⟨rfl, q _ G H (Same.refl _) gh lo ?_⟩
    have z : decide (V.int i = V.int j) = decide (i = j) := by
      by_cases h : i = j
      · subst h; simp
      · rw [decide_eq_false h, decide_eq_false (fun z => h (V.int.inj z))]
    rw [z]
    exact .bl _
theorem e_neI {i j : Int} (ha : E K ta ρ I (.i i) J) (hb : E K tb ρ J (.i j) L) : E K (tOp rNe ta tb) ρ I (.b (!decide (i = j))) L :=
  e_op ha hb fun G H x y gh lo dx dy Q q => by
    obtain rfl := dv_int dx
    obtain rfl := dv_int dy
    refine ⟨rfl, q _ G H (Same.refl _) gh lo ?_⟩
    have z : decide (V.int i = V.int j) = decide (i = j) := by
      by_cases h : i = j
      · subst h; simp
      · rw [decide_eq_false h, decide_eq_false (fun z => h (V.int.inj z))]
    rw [z]
    exact .bl _
theorem e_eqD {x y : PyData} (ha : E K ta ρ I (.d x) J) (hb : E K tb ρ J (.d y) L) (hx : SeqAt.shaped x = true) (hy : SeqAt.shaped y = true) : E K (tOp (rEqD K) ta tb) ρ I (.b (PyData.eqv x y)) L :=
  e_op ha hb fun G H a b gh lo dx dy Q q => ⟨x, y, dp_mono gh _ _ dx, dp_mono gh _ _ dy, hx, hy, q _ G H (Same.refl _) gh lo (.bl _)⟩
theorem e_neD {x y : PyData} (ha : E K ta ρ I (.d x) J) (hb : E K tb ρ J (.d y) L) (hx : SeqAt.shaped x = true) (hy : SeqAt.shaped y = true) : E K (tOp (rNeD K) ta tb) ρ I (.b (!PyData.eqv x y)) L :=
  e_op ha hb fun G H a b gh lo dx dy Q q => ⟨x, y, dp_mono gh _ _ dx, dp_mono gh _ _ dy, hx, hy, q _ G H (Same.refl _) gh lo (.bl _)⟩
theorem e_neg {i : Int} (ha : E K ta ρ I (.i i) J) : E K (tUn (rU fun i => .int (-i)) ta) ρ I (.i (-i)) J :=
  fun G H σ gh en io Q q => ha G H σ gh en io _ fun x G1 H1 g1 gh1 j1 dx => ⟨i, dv_int dx, q _ G1 H1 g1 gh1 j1 (.int _)⟩
/-- an item of a tuple -/
theorem e_ixT {ds : List PyData} {j : Nat} {x : PyData} (ha : E K ta ρ I (.t ds) J) (hb : E K tb ρ J (.i (j : Nat)) L) (h : ds[j]? = some x) : E K (tOp (rIxT K) ta tb) ρ I (.d x) L :=
  e_op ha hb fun G H a b gh lo dx dy Q q => by
    cases dx with
    | tup s r =>
      obtain rfl := dv_int dy
      obtain ⟨v, h1, h2⟩ := dpa_get r h
      exact ⟨_, _, _, v, rfl, rfl, same_t gh s, atI_nat h1, q v G H (Same.refl _) gh lo h2⟩
/-- an item of a list that never changes -/
theorem e_ixL {ds : List PyData} {j : Nat} {x : PyData} (ha : E K ta ρ I (.d (.list ds)) J) (hb : E K tb ρ J (.i (j : Nat)) L) (h : ds[j]? = some x) : E K (tOp (rIxL K) ta tb) ρ I (.d x) L :=
  e_op ha hb fun G H a b gh lo dx dy Q q => by
    cases dx with
    | lst s r =>
      obtain rfl := dv_int dy
      obtain ⟨v, h1, h2⟩ := dpa_get r h
      exact ⟨_, _, _, v, rfl, rfl, gh.seq s, atI_nat h1, q v G H (Same.refl _) gh lo h2⟩
/-! ### arguments, displays, calls of built-ins -/
theorem a_nil : A K tNil ρ I [] I := fun G H σ gh en io Q q => q [] G H (Same.refl _) gh io trivial
theorem a_cons {tr : TA} {ds : List Dat} (ha : E K ta ρ I d J) (hr : A K tr ρ J ds L) : A K (tCons ta tr) ρ I (d :: ds) L :=
  fun G H σ gh en io Q q => ha G H σ gh en io _ fun x G1 H1 g1 gh1 j1 dx => hr G1 H1 σ gh1 (env_mono g1 en) j1 _ fun xs G2 H2 g2 gh2 j2 dxs => q (x :: xs) G2 H2 (g1.trans g2) gh2 j2 ⟨dv_mono g2 dx, dxs⟩
theorem sz_of {n : Nat} (h : n ≤ 100000) : n ≤ sizeLine := Nat.le_trans h (by decide)
theorem e_tupA {tr : TA} {ds : List PyData} (hr : A K tr ρ I (ds.map Dat.d) J) (hl : ds.length ≤ 100000) : E K (tTup tr) ρ I (.t ds) J :=
  fun G H σ gh en io Q q => hr G H σ gh en io _ fun xs G1 H1 g1 gh1 j1 dxs => by
    have r := dva_dp dxs
    refine ⟨by rw [dpa_len r]; exact sz_of hl, fun p hp => ?_⟩
    have s := Stp.new (o := .tup xs) gh1 hp
    exact q _ _ _ (g1.trans s.gg) s.gh (Asn.pure_st s j1) (.tup (.inl (.inl upd_same)) (dp_monos s.gg ds xs r))
theorem e_lstA {tr : TA} {ds : List PyData} (hr : A K tr ρ I (ds.map Dat.d) J) (hl : ds.length ≤ 100000) : E K (tLst tr) ρ I (.d (.list ds)) J :=
  fun G H σ gh en io Q q => hr G H σ gh en io _ fun xs G1 H1 g1 gh1 j1 dxs => by
    have r := dva_dp dxs
    refine ⟨by rw [dpa_len r]; exact sz_of hl, fun p hp => ?_⟩
    have s := Stp.new (o := .lst xs) gh1 hp
    exact q _ _ _ (g1.trans s.gg) s.gh (Asn.pure_st s j1) (.lst (.inl (.inl upd_same)) (dp_monos s.gg ds xs r))
inductive Ds : List Dat → List PyData → Prop
  | nil : Ds [] []
  | cons {x : PyData} {ds : List Dat} {xs : List PyData} : Ds ds xs → Ds (.d x :: ds) (x :: xs)
theorem Ds.map {ds : List Dat} {xs : List PyData} (h : Ds ds xs) : ds = xs.map Dat.d := by
  induction h with
  | nil => rfl
  | cons _ ih => rw [ih, List.map_cons]
theorem e_tup {tr : TA} {ds : List Dat} {xs : List PyData} (hr : A K tr ρ I ds J) (hd : Ds ds xs) (hl : xs.length ≤ 100000) : E K (tTup tr) ρ I (.t xs) J := e_tupA (by rw [← hd.map]; exact hr) hl
theorem e_lst {tr : TA} {ds : List Dat} {xs : List PyData} (hr : A K tr ρ I ds J) (hd : Ds ds xs) (hl : xs.length ≤ 100000) : E K (tLst tr) ρ I (.d (.list xs)) J := e_lstA (by rw [← hd.map]; exact hr) hl
theorem e_cb {r : List V → Hp → VK → Prop} {tr : TA} {ds : List Dat} (hr : A K tr ρ I ds J) (h : ∀ G H vs, Same G H → J.ok G H → DvAll K G vs ds → ∀ Q : VK, (∀ v G2 H2, Same G G2 → Same G2 H2 → L.ok G2 H2 → Dv K G2 v d → Q v H2) → r vs H Q) : E K (tCB r tr) ρ I d L :=
  fun G H σ gh en io Q q => hr G H σ gh en io _ fun xs G1 H1 g1 gh1 j1 dxs => h G1 H1 xs gh1 j1 dxs Q fun v G2 H2 g2 => q v G2 H2 (g1.trans g2)
theorem dva1 {G : Hp} {vs : List V} {d : Dat} (h : DvAll K G vs [d]) : ∃ v, vs = [v] ∧ Dv K G v d := by
  match vs, h with
  | [v], h => exact ⟨v, rfl, h.1⟩
theorem dva2 {G : Hp} {vs : List V} {d e : Dat} (h : DvAll K G vs [d, e]) : ∃ v w, vs = [v, w] ∧ Dv K G v d ∧ Dv K G w e := by
  match vs, h with
  | [v, w], h => exact ⟨v, w, rfl, h.1, h.2.1⟩
theorem e_gcd {i j : Int} {tr : TA} (hr : A K tr ρ I [.i i, .i j] J) : E K (tCB rGcd tr) ρ I (.i ((Nat.gcd i.natAbs j.natAbs : Nat) : Int)) J :=
  e_cb hr fun G H vs gh jo h Q q => by
    obtain ⟨v, w, rfl, h1, h2⟩ := dva2 h
    obtain rfl := dv_int h1
    obtain rfl := dv_int h2
    exact ⟨i, j, rfl, q _ G H (Same.refl _) gh jo (.int _)⟩
theorem e_len {ds : List PyData} {tr : TA} (hr : A K tr ρ I [.d (.list ds)] J) : E K (tCB (fun xs H Q => ∃ p ys, xs = [.ref p] ∧ (SqL K H p ys ∨ SqT K H p ys) ∧ Q (.int ys.length) H) tr) ρ I (.i (ds.length : Nat)) J :=
  e_cb hr fun G H vs gh jo h Q q => by
    obtain ⟨v, rfl, h1⟩ := dva1 h
    cases h1 with
    | lst s r => exact ⟨_, _, rfl, .inl (gh.seq s), by rw [dpa_len r]; exact q _ G H (Same.refl _) gh jo (.int _)⟩
theorem e_lenT {ds : List PyData} {tr : TA} (hr : A K tr ρ I [.t ds] J) : E K (tCB (fun xs H Q => ∃ p ys, xs = [.ref p] ∧ (SqL K H p ys ∨ SqT K H p ys) ∧ Q (.int ys.length) H) tr) ρ I (.i (ds.length : Nat)) J :=
  e_cb hr fun G H vs gh jo h Q q => by
    obtain ⟨v, rfl, h1⟩ := dva1 h
    cases h1 with
    | tup s r => exact ⟨_, _, rfl, .inr (same_t gh s), by rw [dpa_len r]; exact q _ G H (Same.refl _) gh jo (.int _)⟩
/-! ### tests -/
theorem t_test (h : E K te ρ I (.b b) J) : T K (tTest te) ρ I b J := fun G H σ gh en io Q q => h G H σ gh en io _ fun x G1 H1 g1 gh1 j1 dx => ⟨b, dv_bl dx, q G1 H1 g1 gh1 j1⟩
theorem t_B (h : E K te ρ I (.b b) J) : T K (tB te) ρ I b J := fun G H σ gh en io Q q => h G H σ gh en io _ fun x G1 H1 g1 gh1 j1 dx => ⟨b, dv_bl dx, q G1 H1 g1 gh1 j1⟩
theorem t_not (h : T K t ρ I b J) : T K (tNot t) ρ I (!b) J := fun G H σ gh en io Q q => h G H σ gh en io _ fun G1 H1 g1 gh1 j1 => q G1 H1 g1 gh1 j1
theorem t_and (h : T K t ρ I b J) (h2 : b = true → T K u ρ J c J) : T K (tAnd t u) ρ I (b && c) J := fun G H σ gh en io Q q => h G H σ gh en io _ fun G1 H1 g1 gh1 j1 => by
  cases b with
  | true =>
    show u σ H1 Q
    exact h2 rfl G1 H1 σ gh1 (env_mono g1 en) j1 Q fun G2 H2 g2 => q G2 H2 (g1.trans g2)
  | false =>
    show Q false H1
    exact q G1 H1 g1 gh1 j1
theorem t_or (h : T K t ρ I b J) (h2 : b = false → T K u ρ J c J) : T K (tOr t u) ρ I (b || c) J := fun G H σ gh en io Q q => h G H σ gh en io _ fun G1 H1 g1 gh1 j1 => by
  cases b with
  | false =>
    show u σ H1 Q
    exact h2 rfl G1 H1 σ gh1 (env_mono g1 en) j1 Q fun G2 H2 g2 => q G2 H2 (g1.trans g2)
  | true =>
    show Q true H1
    exact q G1 H1 g1 gh1 j1
/-- and, or whose outcome is told by the first -/
theorem t_andF (h : T K t ρ I false J) : T K (tAnd t u) ρ I false J := fun G H σ gh en io Q q => h G H σ gh en io _ fun G1 H1 g1 gh1 j1 => q G1 H1 g1 gh1 j1
theorem t_andT (h : T K t ρ I true J) (h2 : T K u ρ J c L) : T K (tAnd t u) ρ I c L := fun G H σ gh en io Q q => h G H σ gh en io _ fun G1 H1 g1 gh1 j1 => h2 G1 H1 σ gh1 (env_mono g1 en) j1 Q fun G2 H2 g2 => q G2 H2 (g1.trans g2)
theorem t_orT (h : T K t ρ I true J) : T K (tOr t u) ρ I true J := fun G H σ gh en io Q q => h G H σ gh en io _ fun G1 H1 g1 gh1 j1 => q G1 H1 g1 gh1 j1
theorem t_orF (h : T K t ρ I false J) (h2 : T K u ρ J c L) : T K (tOr t u) ρ I c L := fun G H σ gh en io Q q => h G H σ gh en io _ fun G1 H1 g1 gh1 j1 => h2 G1 H1 σ gh1 (env_mono g1 en) j1 Q fun G2 H2 g2 => q G2 H2 (g1.trans g2)
theorem t_is {b c : Bool} (h : T K t ρ I b J) (e : b = c) : T K t ρ I c J := e ▸ h
theorem e_is {d e : Dat} (h : E K te ρ I d J) (z : d = e) : E K te ρ I e J := z ▸ h
theorem e_ifT (h : T K t ρ I true J) (h2 : E K ta ρ J d L) : E K (tIf t ta tb) ρ I d L := fun G H σ gh en io Q q => h G H σ gh en io _ fun G1 H1 g1 gh1 j1 => h2 G1 H1 σ gh1 (env_mono g1 en) j1 Q fun v G2 H2 g2 => q v G2 H2 (g1.trans g2)
theorem e_ifF (h : T K t ρ I false J) (h2 : E K tb ρ J d L) : E K (tIf t ta tb) ρ I d L := fun G H σ gh en io Q q => h G H σ gh en io _ fun G1 H1 g1 gh1 j1 => h2 G1 H1 σ gh1 (env_mono g1 en) j1 Q fun v G2 H2 g2 => q v G2 H2 (g1.trans g2)
theorem e_notV (h : E K ta ρ I (.b b) J) : E K (tNotV ta) ρ I (.b (!b)) J := fun G H σ gh en io Q q => h G H σ gh en io _ fun x G1 H1 g1 gh1 j1 dx => ⟨b, dv_bl dx, q _ G1 H1 g1 gh1 j1 (.bl _)⟩
theorem e_andV (h : E K ta ρ I (.b b) J) (h2 : b = true → E K tb ρ J (.b c) J) : E K (tAndV ta tb) ρ I (.b (b && c)) J := fun G H σ gh en io Q q => h G H σ gh en io _ fun x G1 H1 g1 gh1 j1 dx => ⟨b, dv_bl dx, by
  cases b with
  | true =>
    show tb σ H1 Q
    exact h2 rfl G1 H1 σ gh1 (env_mono g1 en) j1 Q fun v G2 H2 g2 => q v G2 H2 (g1.trans g2)
  | false =>
    show Q (.bl false) H1
    exact q _ G1 H1 g1 gh1 j1 (.bl _)⟩
theorem e_orV (h : E K ta ρ I (.b b) J) (h2 : b = false → E K tb ρ J (.b c) J) : E K (tOrV ta tb) ρ I (.b (b || c)) J := fun G H σ gh en io Q q => h G H σ gh en io _ fun x G1 H1 g1 gh1 j1 dx => ⟨b, dv_bl dx, by
  cases b with
  | false =>
    show tb σ H1 Q
    exact h2 rfl G1 H1 σ gh1 (env_mono g1 en) j1 Q fun v G2 H2 g2 => q v G2 H2 (g1.trans g2)
  | true =>
    show Q (.bl true) H1
    exact q _ G1 H1 g1 gh1 j1 (.bl _)⟩
/-! ### statements -/
variable {ts us : TS} {k : Out}
theorem s_next : S K tNext ρ I (.nx ρ I) := fun G H σ D gh en io f => f G H σ (Same.refl _) gh en io
theorem s_asg {i : Nat} (h : E K te ρ I d J) : S K (tAsg te (gName i)) ρ I (.nx (ρ.set i (some d)) J) := fun G H σ D gh en io f => h G H σ gh en io _ fun v G1 H1 g1 gh1 j1 dv => f G1 H1 _ g1 gh1 (env_set dv (env_mono g1 en)) j1
theorem s_ret (h : E K te ρ I d J) : S K (tRet te) ρ I (.rt d J) := fun G H σ D gh en io f => h G H σ gh en io _ fun v G1 H1 g1 gh1 j1 dv => f v G1 H1 g1 gh1 j1 dv
theorem s_drop (h : E K te ρ I d J) : S K (tDrop te) ρ I (.nx ρ J) := fun G H σ D gh en io f => h G H σ gh en io _ fun v G1 H1 g1 gh1 j1 dv => f G1 H1 σ g1 gh1 (env_mono g1 en) j1
theorem s_seq (h : S K ts ρ I (.nx ρ1 J)) (h2 : S K us ρ1 J k) : S K (tSeq ts us) ρ I k := fun G H σ D gh en io f => h G H σ _ gh en io fun G1 H1 σ1 g1 gh1 en1 j1 => h2 G1 H1 σ1 D gh1 en1 j1 (f.mono g1)
theorem s_stop {d : Dat} (h : S K ts ρ I (.rt d J)) : S K (tSeq ts us) ρ I (.rt d J) := fun G H σ D gh en io f => h G H σ _ gh en io f
theorem s_stopC {ρ1 : Rho} (h : S K ts ρ I (.ct ρ1 J)) : S K (tSeq ts us) ρ I (.ct ρ1 J) := fun G H σ D gh en io f => h G H σ _ gh en io f
theorem s_stopB {ρ1 : Rho} (h : S K ts ρ I (.bk ρ1 J)) : S K (tSeq ts us) ρ I (.bk ρ1 J) := fun G H σ D gh en io f => h G H σ _ gh en io f
theorem s_cont : S K tCont ρ I (.ct ρ I) := fun G H σ D gh en io f => f G H σ (Same.refl _) gh en io
theorem s_break : S K tBreak ρ I (.bk ρ I) := fun G H σ D gh en io f => f G H σ (Same.refl _) gh en io
theorem s_ifT (h : T K t ρ I true J) (h2 : S K ts ρ J k) : S K (tIfS t ts us) ρ I k := fun G H σ D gh en io f => h G H σ gh en io _ fun G1 H1 g1 gh1 j1 => h2 G1 H1 σ D gh1 (env_mono g1 en) j1 (f.mono g1)
theorem s_ifF (h : T K t ρ I false J) (h2 : S K us ρ J k) : S K (tIfS t ts us) ρ I k := fun G H σ D gh en io f => h G H σ gh en io _ fun G1 H1 g1 gh1 j1 => h2 G1 H1 σ D gh1 (env_mono g1 en) j1 (f.mono g1)
theorem s_if (h : T K t ρ I b J) (h1 : b = true → S K ts ρ J k) (h2 : b = false → S K us ρ J k) : S K (tIfS t ts us) ρ I k := by
  cases b with
  | true => exact s_ifT h (h1 rfl)
  | false => exact s_ifF h (h2 rfl)
theorem s_par {i j : Nat} {tr : TA} (h : A K tr ρ I [d, e] J) : S K (tPar i j tr) ρ I (.nx ((ρ.set i (some d)).set j (some e)) J) := fun G H σ D gh en io f => h G H σ gh en io _ fun vs G1 H1 g1 gh1 j1 dv => by
  obtain ⟨v, w, rfl, h1, h2⟩ := dva2 dv
  exact ⟨v, w, rfl, f G1 H1 _ g1 gh1 (env_set h2 (env_set h1 (env_mono g1 en))) j1⟩
theorem s_is {k k' : Out} (h : S K ts ρ I k) (e : k = k') : S K ts ρ I k' := e ▸ h
/-- less may be known ahead -/
theorem s_less {ρ' : Rho} (l : Less ρ ρ') (h : S K ts ρ' I k) : S K ts ρ I k := fun G H σ D gh en io f => h G H σ D gh (env_less l en) io f
theorem s_lessN {ρ' ρ'' : Rho} (l : Less ρ' ρ'') (h : S K ts ρ I (.nx ρ' J)) : S K ts ρ I (.nx ρ'' J) := fun G H σ D gh en io f => h G H σ D gh en io fun G2 H2 σ2 g2 gh2 en2 => f G2 H2 σ2 g2 gh2 (env_less l en2)
/-! ### while -/
theorem s_while {α : Type} {tc : TT} (Iv : α → Prop) (P : α → Rho) (V : α → Asn) (μ : α → Nat) (s0 : α) (h0 : Iv s0)
    (turn : ∀ s, Iv s → (T K tc (P s) (V s) true (V s) ∧ ((∃ s', Iv s' ∧ μ s' < μ s ∧ S K ts (P s) (V s) (.nx (P s') (V s'))) ∨ (∃ d J, k = .rt d J ∧ S K ts (P s) (V s) k))) ∨ (T K tc (P s) (V s) false (V s) ∧ k = .nx (P s) (V s))) :
    S K (tWhile tc ts) (P s0) (V s0) k := fun G H σ D gh en io f => by
  refine ⟨fun m σ' H' => ∃ s G', m = μ s ∧ Iv s ∧ Same G G' ∧ Same G' H' ∧ EnvD K G' σ' (P s) ∧ (V s).ok G' H', ⟨μ s0, s0, G, rfl, h0, Same.refl _, gh, en, io⟩, fun m σ' H' hw => ?_⟩
  obtain ⟨s, G', rfl, iv, g', gh', en', io'⟩ := hw
  rcases turn s iv with ⟨ht, hb⟩ | ⟨ht, hk⟩
  · refine ht G' H' σ' gh' en' io' _ fun G1 H1 g1 gh1 j1 => ?_
    rcases hb with ⟨s', iv', lt, hs⟩ | ⟨d, J, rfl, hs⟩
    · refine ⟨fun σ2 H2 => ∃ G2, Same G G2 ∧ Same G2 H2 ∧ EnvD K G2 σ2 (P s') ∧ (V s').ok G2 H2, fun σ2 H2 ⟨G2, a, b, c, d⟩ => ⟨μ s', lt, s', G2, rfl, iv', a, b, c, d⟩, ?_⟩
      exact hs G1 H1 σ' _ gh1 (env_mono g1 en') j1 fun G2 H2 σ2 g2 gh2 en2 j2 => ⟨G2, (g'.trans g1).trans g2, gh2, en2, j2⟩
    · refine ⟨fun _ _ => False, fun _ _ z => z.elim, ?_⟩
      exact hs G1 H1 σ' _ gh1 (env_mono g1 en') j1 ((f.mono g').mono g1 : Fin K D G1 (.rt d J))
  · subst hk
    exact ht G' H' σ' gh' en' io' _ fun G1 H1 g1 gh1 j1 => f G1 H1 σ' (g'.trans g1) gh1 (env_mono g1 en') j1
/-! ### for over a list that never changes, a tuple, a range -/
theorem s_forL {tl : TE} {ds : List PyData} {j : Nat} (P : Nat → Rho) (V : Nat → Asn) (hl : E K tl ρ I (.d (.list ds)) (V 0)) (h0 : ρ = P 0)
    (turn : ∀ i x, ds[i]? = some x → S K ts ((P i).set j (some (.d x))) (V i) (.nx (P (i + 1)) (V (i + 1)))) : S K (tFor (iList K tl) (gName j) ts) ρ I (.nx (P ds.length) (V ds.length)) := fun G H σ D gh en io f => by
  refine hl G H σ gh en io _ fun v G1 H1 g1 gh1 j1 dv => ?_
  cases dv with
  | lst s r =>
    rename_i a xs
    subst h0
    refine ⟨a, rfl, ⟨_, gh1.seq s⟩, for_list (xs := xs) (fun i σ' H' => ∃ G', Same G1 G' ∧ Same G' H' ∧ EnvD K G' σ' (P i) ∧ (V i).ok G' H') ⟨G1, Same.refl _, gh1, env_mono g1 en, j1⟩ (fun i σ' H' _ ⟨G', a1, a2, _⟩ => (a1.trans a2).seq s) (fun i x σ' H' hx ⟨G', a1, a2, a3, a4⟩ => ?_) (fun σ' H' ⟨G', a1, a2, a3, a4⟩ => ?_)⟩
    · have hi : i < xs.length := (List.getElem?_eq_some_iff.mp hx).1
      have hi2 : i < ds.length := by rw [← dpa_len r]; exact hi
      obtain ⟨w, h1, h2⟩ := dpa_get r (List.getElem?_eq_getElem hi2)
      rw [hx] at h1
      obtain rfl := Option.some.inj h1
      exact turn i _ (List.getElem?_eq_getElem hi2) G' H' _ _ a2 (env_set (d := .d _) (dp_mono a1 _ _ h2) a3) a4 fun G2 H2 σ2 g2 gh2 en2 j2 => ⟨G2, a1.trans g2, gh2, en2, j2⟩
    · rw [dpa_len r] at a3 a4
      exact f G' H' σ' (g1.trans a1) a2 a3 a4
theorem s_forR1 {tr : TA} {n : Nat} {j : Nat} (hn : n ≤ 1000000) (P : Nat → Rho) (V : Nat → Asn) (hl : A K tr ρ I [.i (n : Nat)] (V 0)) (h0 : ρ = P 0)
    (turn : ∀ i : Nat, i < n → S K ts ((P i).set j (some (.i (i : Nat)))) (V i) (.nx (P (i + 1)) (V (i + 1)))) : S K (tFor (iRng1 tr) (gName j) ts) ρ I (.nx (P n) (V n)) := fun G H σ D gh en io f => by
  refine hl G H σ gh en io _ fun vs G1 H1 g1 gh1 j1 dv => ?_
  obtain ⟨v, rfl, h1⟩ := dva1 dv
  obtain rfl := dv_int h1
  subst h0
  refine ⟨(n : Int), rfl, by omega, by omega, ?_⟩
  refine for_range (lo := 0) (n := (n : Int).toNat) (fun i σ' H' => ∃ G', Same G1 G' ∧ Same G' H' ∧ EnvD K G' σ' (P i) ∧ (V i).ok G' H') ⟨G1, Same.refl _, gh1, env_mono g1 en, j1⟩ (fun i σ' H' hx ⟨G', a1, a2, a3, a4⟩ => ?_) (fun σ' H' ⟨G', a1, a2, a3, a4⟩ => ?_)
  · have e : (0 : Int) + (i : Int) = (i : Int) := Int.zero_add _
    rw [e]
    exact turn i (by omega) G' H' _ _ a2 (env_set (d := .i (i : Nat)) (.int _) a3) a4 fun G2 H2 σ2 g2 gh2 en2 j2 => ⟨G2, a1.trans g2, gh2, en2, j2⟩
  · rw [Int.toNat_natCast] at a3 a4
    exact f G' H' σ' (g1.trans a1) a2 a3 a4
/-! ### defs that change nothing -/
/-- the tables at T are known wherever J holds -/
class HasT (T : Tbs) (J : Asn) : Prop where
  get : ∀ G H, J.ok G H → TabsIn T G H
abbrev noT : Tbs := ⟨[], []⟩
instance : HasT noT J := ⟨fun _ _ _ => ⟨fun p hp => (by cases hp), fun p hp => (by cases hp)⟩⟩
instance {T : Tbs} [h : HasT T J] : HasT T (I.and J) := ⟨fun G H z => h.get G H z.2⟩
def Asn.tab (T : Tbs) : Asn := ⟨NoA, fun G H => TabsIn T G H, fun _ _ _ _ _ _ s h => h.go s, fun _ _ _ _ z => z.elim⟩
instance {T : Tbs} : HasT T (Asn.tab T) := ⟨fun _ _ z => z⟩
/-- R ds d: of the arguments ds it hands back d; the tables at T may grow -/
def spT (K : PySem.W.Frag) (T : Tbs) (R : List Dat → Dat → Prop) : Sp := fun vs H Q _ => ∃ G ds d, Same G H ∧ DvAll K G vs ds ∧ R ds d ∧ TabsIn T G H ∧ ∀ v G2 H2, Stp NoA G H G2 H2 → Dv K G2 v d → Q v H2
abbrev spP (K : PySem.W.Frag) (R : List Dat → Dat → Prop) : Sp := spT K noT R
theorem e_call {T : Tbs} {R : List Dat → Dat → Prop} {X : XK} {tr : TA} {ds : List Dat} [hT : HasT T J] (hr : A K tr ρ I ds J) (h : R ds d) : E K (tCall (spT K T R) [] X tr) ρ I d J := fun G H σ gh en io Q q => hr G H σ gh en io _ fun vs G1 H1 g1 gh1 j1 dvs => by
  rw [List.append_nil]
  exact ⟨G1, ds, d, gh1, dvs, h, hT.get _ _ j1, fun v G2 H2 s dv => q v G2 H2 (g1.trans s.gg) s.gh (Asn.pure_st s j1) dv⟩
theorem body_T {T : Tbs} {R : List Dat → Dat → Prop} {N : List Str} {vs : List V} {H : Hp} {Q : VK} {X : XK} (hb : ∀ ds d, R ds d → ∀ I, HasT T I → S K ts (ds.map some ++ List.replicate (N.length - ds.length) none) I (.rt d I)) (h : spT K T R vs H Q X) :
    ts { nx := fun _ H' => Q .non H', rt := Q } (L2.start N vs) H := by
  obtain ⟨G, ds, d, gh, dvs, r, tb, q⟩ := h
  refine hb ds d r ((Asn.since NoA G H).and (Asn.tab T)) inferInstance G H _ _ gh ?_ ⟨Stp.refl gh, tb⟩ fun v G2 H2 g2 gh2 j2 dv => q v G2 H2 j2.1 dv
  unfold L2.start
  rw [dva_len dvs]
  exact env_start _ dvs
theorem body_P {R : List Dat → Dat → Prop} {N : List Str} {vs : List V} {H : Hp} {Q : VK} {X : XK} (hb : ∀ ds d, R ds d → ∀ I, S K ts (ds.map some ++ List.replicate (N.length - ds.length) none) I (.rt d I)) (h : spP K R vs H Q X) :
    ts { nx := fun _ H' => Q .non H', rt := Q } (L2.start N vs) H := body_T (fun ds d r I _ => hb ds d r I) h
theorem len_P {T : Tbs} {R : List Dat → Dat → Prop} {n : Nat} (hl : ∀ ds d, R ds d → ds.length = n) {vs : List V} {H : Hp} {Q : VK} {X : XK} (h : spT K T R vs H Q X) : vs.length = n := by
  obtain ⟨G, ds, d, gh, dvs, r, _, q⟩ := h
  rw [dva_len dvs, hl ds d r]
end
end PL

namespace PL
open PySem PySem.Spec PyProof.Rows L2
variable [Nm]

/-! ### the drawing list -/
structure DS where
  a : Addr
  ns : List Int
  pos : Nat
  rest : Int
  seed : Int
def dO (S : DS) : HO := .lst [.ref S.a, .int (S.pos : Nat), .int S.rest, .int S.seed]
section
variable {K : PySem.W.Frag} {ρ ρ1 : Rho} {I J L N : Asn} {ta tb tc te : TE} {d e : Dat} {t u : TT} {b c : Bool} {p : Addr} {C C' : DS}
def dA (K : PySem.W.Frag) (p : Addr) (C : DS) : Asn := ⟨(· = p), fun G H => G p = none ∧ H p = some (dO C) ∧ SqL K G C.a (C.ns.map V.int), fun M G H G2 H2 n s h =>
  ⟨s.fr p _ (n p rfl) h.2.1 h.1, s.hh p _ (n p rfl) h.2.1, s.gg.seq h.2.2⟩, fun G H a h (z : a = p) => ⟨dO C, by rw [z]; exact h.2.1⟩⟩
abbrev dJ (K : PySem.W.Frag) (p : Addr) (C : DS) (J : Asn) : Asn := (dA K p C).and J
def dS (C : DS) : List Dat := [.d (.list (C.ns.map PyData.int)), .i (C.pos : Nat), .i C.rest, .i C.seed]
theorem e_dix {j : Nat} {x : Dat} (ha : E K ta ρ I (.r p) (dJ K p C J)) (hb : E K tb ρ (dJ K p C J) (.i (j : Nat)) (dJ K p C J)) (h : (dS C)[j]? = some x) : E K (tOp (rIxL K) ta tb) ρ I x (dJ K p C J) :=
  e_op ha hb fun G H v w gh lo dx dy Q q => by
    obtain rfl : v = .ref p := dx
    obtain rfl := dv_int dy
    obtain ⟨⟨l1, l2, l3⟩, l4⟩ := lo
    have done : ∀ y, atI [V.ref C.a, V.int (C.pos : Nat), V.int C.rest, V.int C.seed] (j : Int) = some y → Dv K G y x → rIxL K (.ref p) (.int (j : Int)) H Q := fun y hy dvy =>
      ⟨p, _, _, y, rfl, rfl, .inl (.inl l2), hy, q y G H (Same.refl _) gh ⟨⟨l1, l2, l3⟩, l4⟩ dvy⟩
    match j, h with
    | 0, h =>
      obtain rfl := Option.some.inj h
      exact done (.ref C.a) (atI_nat (j := 0) rfl) (.lst l3 (dpa_ints _))
    | 1, h =>
      obtain rfl := Option.some.inj h
      exact done _ (atI_nat (j := 1) rfl) (.int _)
    | 2, h =>
      obtain rfl := Option.some.inj h
      exact done _ (atI_nat (j := 2) rfl) (.int _)
    | 3, h =>
      obtain rfl := Option.some.inj h
      exact done _ (atI_nat (j := 3) rfl) (.int _)
    | n + 4, h => simp [dS] at h
/-- a store into it -/
theorem s_dset {x : Int} {j : Nat} (he : E K te ρ I (.i x) (dJ K p C J)) (ha : E K ta ρ (dJ K p C J) (.r p) (dJ K p C J)) (hb : E K tb ρ (dJ K p C J) (.i (j : Nat)) (dJ K p C J)) (hj : j < 4)
    (h : HO.lst ([V.ref C.a, V.int (C.pos : Nat), V.int C.rest, V.int C.seed].set j (.int x)) = dO C') (h2 : C'.a = C.a ∧ C'.ns = C.ns) (hf : ¬ J.foot p) :
    S K (tAsg te (gSub ta tb rSetL)) ρ I (.nx ρ (dJ K p C' J)) := fun G H σ D gh en io f => he G H σ gh en io _ fun v G1 H1 g1 gh1 j1 dv =>
  ha G1 H1 σ gh1 (env_mono g1 en) j1 _ fun o G2 H2 g2 gh2 j2 do_ => hb G2 H2 σ gh2 (env_mono (g1.trans g2) en) j2 _ fun i G3 H3 g3 gh3 j3 di => by
    obtain rfl := dv_int dv
    obtain rfl : o = .ref p := do_
    obtain rfl := dv_int di
    obtain ⟨⟨l1, l2, l3⟩, l4⟩ := j3
    have s := Stp.store (o := dO C') gh3 l1 l2
    refine ⟨p, _, (j : Int), j, rfl, rfl, l2, ?_, ?_⟩
    · unfold ixN
      rw [if_pos (by omega), if_pos (by show (j : Int) < (4 : Nat); omega)]
      simp
    · rw [h]
      refine f _ _ σ ((g1.trans g2).trans g3) s.gh (env_mono ((g1.trans g2).trans g3) en) ⟨⟨l1, upd_same, ?_⟩, J.st _ _ _ _ _ (fun a fa (z : a = p) => hf (z ▸ fa)) s l4⟩
      rw [h2.1, h2.2]
      exact l3
abbrev rInt1 : List V → Hp → VK → Prop := fun xs H Q => (∃ i, xs = [.int i] ∧ Q (.int i) H) ∨ ∃ k, xs = [.bl k] ∧ Q (.int (if k then 1 else 0)) H
theorem e_int1 {i : Int} {tr : TA} (hr : A K tr ρ I [.i i] J) : E K (tCB (fun xs H Q => (∃ i, xs = [.int i] ∧ Q (.int i) H) ∨ ∃ k, xs = [.bl k] ∧ Q (.int (if k then 1 else 0)) H) tr) ρ I (.i i) J :=
  e_cb hr fun G H vs gh jo h Q q => by
    obtain ⟨v, rfl, h1⟩ := dva1 h
    obtain rfl := dv_int h1
    exact .inl ⟨i, rfl, q _ G H (Same.refl _) gh jo (.int _)⟩
theorem e_abs {i : Int} {tr : TA} (hr : A K tr ρ I [.i i] J) : E K (tCB (fun xs H Q => ∃ i, xs = [.int i] ∧ Q (.int (if i < 0 then -i else i)) H) tr) ρ I (.i (i.natAbs : Nat)) J :=
  e_cb hr fun G H vs gh jo h Q q => by
    obtain ⟨v, rfl, h1⟩ := dva1 h
    obtain rfl := dv_int h1
    refine ⟨i, rfl, ?_⟩
    have z : (if i < 0 then -i else i) = (i.natAbs : Int) := by
      split <;> omega
    rw [z]
    exact q _ G H (Same.refl _) gh jo (.int _)
/-- defs that draw: R ds C d C': of the arguments p, ds and the list as C they hand back d and leave it as C' -/
def spW (K : PySem.W.Frag) (R : List Dat → DS → Dat → DS → Prop) : Sp := fun vs H Q _ => ∃ G ds d p C C', Same G H ∧ DvAll K G vs (.r p :: ds) ∧ (dA K p C).ok G H ∧ R ds C d C' ∧ ∀ v G2 H2, Stp (· = p) G H G2 H2 → (dA K p C').ok G2 H2 → Dv K G2 v d → Q v H2
theorem e_draw {R : List Dat → DS → Dat → DS → Prop} {X : XK} {tr : TA} {ds : List Dat} (hr : A K tr ρ I (.r p :: ds) (dJ K p C J)) (h : R ds C d C') (hf : ¬ J.foot p) : E K (tCall (spW K R) [] X tr) ρ I d (dJ K p C' J) := fun G H σ gh en io Q q => hr G H σ gh en io _ fun vs G1 H1 g1 gh1 j1 dvs => by
  rw [List.append_nil]
  exact ⟨G1, ds, d, p, C, C', gh1, dvs, j1.1, h, fun v G2 H2 s k dv => q v G2 H2 (g1.trans s.gg) s.gh ⟨k, J.st _ _ _ _ _ (fun a fa (z : a = p) => hf (z ▸ fa)) s j1.2⟩ dv⟩
theorem body_W {ts : TS} {R : List Dat → DS → Dat → DS → Prop} {N : List Str} {vs : List V} {H : Hp} {Q : VK} {X : XK} (hb : ∀ ds C d C', R ds C d C' → ∀ p J, ¬ J.foot p → S K ts (some (.r p) :: (ds.map some ++ List.replicate (N.length - (ds.length + 1)) none)) (dJ K p C J) (.rt d (dJ K p C' J))) (h : spW K R vs H Q X) :
    ts { nx := fun _ H' => Q .non H', rt := Q } (L2.start N vs) H := by
  obtain ⟨G, ds, d, p, C, C', gh, dvs, k, r, q⟩ := h
  refine hb ds C d C' r p (Asn.since (· = p) G H) (fun z => z.1 rfl) G H _ _ gh ?_ ⟨k, Stp.refl gh⟩ fun v G2 H2 g2 gh2 j2 dv => q v G2 H2 j2.2 j2.1 dv
  unfold L2.start
  rw [dva_len dvs, List.length_cons]
  exact env_start (ds := .r p :: ds) _ dvs
theorem len_W {R : List Dat → DS → Dat → DS → Prop} {n : Nat} (hl : ∀ ds C d C', R ds C d C' → ds.length + 1 = n) {vs : List V} {H : Hp} {Q : VK} {X : XK} (h : spW K R vs H Q X) : vs.length = n := by
  obtain ⟨G, ds, d, p, C, C', gh, dvs, k, r, q⟩ := h
  rw [dva_len dvs, List.length_cons, hl ds C d C' r]
/-! ### the draws themselves -/
def take1 (C : DS) (m : Int) : Int × DS :=
  if 0 < C.rest then (C.rest % m, { C with rest := C.rest / m })
  else (((C.seed * 48271 + 11) % 2147483647 / 3) % m, { C with seed := (C.seed * 48271 + 11) % 2147483647 })
def take (C : DS) (m : Int) : Int × DS :=
  if C.rest = 0 ∧ C.pos < C.ns.length then
    if ((C.ns.getD C.pos 0).natAbs : Int) < 10 ^ 18 then (((C.ns.getD C.pos 0).natAbs : Int) % m, { C with pos := C.pos + 1, rest := 0 })
    else take1 { C with pos := C.pos + 1, rest := ((C.ns.getD C.pos 0).natAbs : Int) } m
  else take1 C m
structure DOk (C : DS) : Prop where
  r : 0 ≤ C.rest
  s : 0 ≤ C.seed ∧ C.seed < 2147483647
theorem take1_ok {C : DS} {m : Int} (h : DOk C) (hm : 0 < m) : DOk (take1 C m).2 ∧ 0 ≤ (take1 C m).1 ∧ (take1 C m).1 < m := by
  unfold take1
  split
  · exact ⟨⟨Int.ediv_nonneg h.r (Int.le_of_lt hm), h.s⟩, Int.emod_nonneg _ (by omega), Int.emod_lt_of_pos _ hm⟩
  · exact ⟨⟨h.r, Int.emod_nonneg _ (by decide), Int.emod_lt_of_pos _ (by decide)⟩, Int.emod_nonneg _ (by omega), Int.emod_lt_of_pos _ hm⟩
theorem take_ok {C : DS} {m : Int} (h : DOk C) (hm : 0 < m) : DOk (take C m).2 ∧ 0 ≤ (take C m).1 ∧ (take C m).1 < m := by
  unfold take
  split
  · split
    · exact ⟨⟨Int.le_refl _, h.s⟩, Int.emod_nonneg _ (by omega), Int.emod_lt_of_pos _ hm⟩
    · exact take1_ok ⟨by show (0 : Int) ≤ ((C.ns.getD C.pos 0).natAbs : Int); omega, h.s⟩ hm
  · exact take1_ok h hm
end
end PL

/-! Fractions as pairs of integers: the program's own sums and products are the lowest terms. Plain Lean. -/
namespace FR
abbrev F := Int × Int
def Nrm (a : F) : Prop := 0 < a.2 ∧ Int.gcd a.1 a.2 = 1
/-- the lowest terms of n over d, d above 0 -/
def nf (n d : Int) : F := (n / (Int.gcd n d : Int), d / (Int.gcd n d : Int))
def lf (n d : Int) : F := if d < 0 then nf (0 - n) (0 - d) else nf n d

theorem nf_nrm {n d : Int} (h : 0 < d) : Nrm (nf n d) := by
  have g0 : 0 < Int.gcd n d := Int.gcd_pos_of_ne_zero_right n (by omega)
  refine ⟨?_, Int.gcd_ediv_gcd_ediv_gcd g0⟩
  have dv : (Int.gcd n d : Int) ∣ d := Int.gcd_dvd_right n d
  exact Int.ediv_pos_of_pos_of_dvd h (by omega) dv
theorem lf_nrm {n d : Int} (h : d ≠ 0) : Nrm (lf n d) := by
  unfold lf
  split
  · exact nf_nrm (by omega)
  · exact nf_nrm (by omega)
theorem nf_mul1 {n d : Int} (h : 0 < d) : (nf n d).1 * d = n * (nf n d).2 := by
  have g0 : 0 < Int.gcd n d := Int.gcd_pos_of_ne_zero_right n (by omega)
  obtain ⟨x, hx⟩ := Int.gcd_dvd_left n d
  obtain ⟨y, hy⟩ := Int.gcd_dvd_right n d
  have e1 : n / (Int.gcd n d : Int) = x := by
    rw [Int.ediv_eq_of_eq_mul_right (by omega) hx]
  have e2 : d / (Int.gcd n d : Int) = y := by
    rw [Int.ediv_eq_of_eq_mul_right (by omega) hy]
  show n / (Int.gcd n d : Int) * d = n * (d / (Int.gcd n d : Int))
  rw [e1, e2]
  conv => lhs; rw [hy]
  conv => rhs; rw [hx]
  grind
/-- lowest terms are one -/
theorem nrm_one {a b : F} (ha : Nrm a) (hb : Nrm b) (h : a.1 * b.2 = b.1 * a.2) : a = b := by
  obtain ⟨a1, a2⟩ := a
  obtain ⟨b1, b2⟩ := b
  obtain ⟨pa, ga⟩ := ha
  obtain ⟨pb, gb⟩ := hb
  simp only at *
  have d1 : a2 ∣ b2 := by
    have z : a2 ∣ a1 * b2 := ⟨b1, by rw [h]; grind⟩
    exact (Int.dvd_gcd_mul_iff_dvd_mul (k := a2) (n := a1) (m := b2)).mpr z |> fun q => by
      rw [Int.gcd_comm, ga] at q
      simpa using q
  have d2 : b2 ∣ a2 := by
    have z : b2 ∣ b1 * a2 := ⟨a1, by rw [← h]; grind⟩
    exact (Int.dvd_gcd_mul_iff_dvd_mul (k := b2) (n := b1) (m := a2)).mpr z |> fun q => by
      rw [Int.gcd_comm, gb] at q
      simpa using q
  have e : a2 = b2 := Int.le_antisymm (Int.le_of_dvd pb d1) (Int.le_of_dvd pa d2)
  subst e
  have e2 : a1 = b1 := Int.eq_of_mul_eq_mul_right (by omega) h
  rw [e2]
theorem nf_of {a : F} {n d : Int} (ha : Nrm a) (hd : 0 < d) (h : a.1 * d = n * a.2) : a = nf n d := by
  refine nrm_one ha (nf_nrm hd) ?_
  have z := nf_mul1 (n := n) hd
  have w : (a.1 * (nf n d).2) * d = ((nf n d).1 * a.2) * d := by
    grind
  exact Int.eq_of_mul_eq_mul_right (by omega) w
theorem nf_self {a : F} (ha : Nrm a) : nf a.1 a.2 = a := (nf_of ha ha.1 rfl).symm
theorem nf_eq {n d m e : Int} (hd : 0 < d) (he : 0 < e) (h : n * e = m * d) : nf n d = nf m e := by
  refine nf_of (nf_nrm hd) he ?_
  have z := nf_mul1 (n := n) hd
  have w : ((nf n d).1 * e) * d = (m * (nf n d).2) * d := by grind
  exact Int.eq_of_mul_eq_mul_right (by omega) w

/-! ### the program's own -/
def plusM (a b : F) : F :=
  let s : Int := (Int.gcd a.2 b.2 : Int)
  let t := a.2 / s
  let n := a.1 * (b.2 / s) + b.1 * t
  let v : Int := (Int.gcd n s : Int)
  (n / v, t * (b.2 / v))
def minusM (a b : F) : F := plusM a (-b.1, b.2)
def timesM (a b : F) : F :=
  let f : Int := (Int.gcd a.1 b.2 : Int)
  let s : Int := (Int.gcd b.1 a.2 : Int)
  ((a.1 / f) * (b.1 / s), (a.2 / s) * (b.2 / f))
theorem gcd_one_of {x y z : Int} (h : Int.gcd x y = 1) (d : z ∣ x) : Int.gcd z y = 1 := by
  have q := Int.gcd_dvd_gcd_of_dvd_left y d
  rw [h] at q
  exact Nat.dvd_one.mp q
theorem gcd_one_of2 {x y z : Int} (h : Int.gcd x y = 1) (d : z ∣ y) : Int.gcd x z = 1 := by
  rw [Int.gcd_comm] at h ⊢
  exact gcd_one_of h d
theorem gcd_add {x y k : Int} : Int.gcd (x + k * y) y = Int.gcd x y := by
  simp
theorem plus_nrm {a b : F} (ha : Nrm a) (hb : Nrm b) : Nrm (plusM a b) := by
  obtain ⟨x, p⟩ := a
  obtain ⟨y, q⟩ := b
  obtain ⟨pp, gp⟩ := ha
  obtain ⟨pq, gq⟩ := hb
  simp only at *
  have s0 : 0 < Int.gcd p q := Int.gcd_pos_of_ne_zero_right p (by omega)
  obtain ⟨p', hp⟩ := Int.gcd_dvd_left p q
  obtain ⟨q', hq⟩ := Int.gcd_dvd_right p q
  generalize hs : Int.gcd p q = s at *
  have ep : p / (s : Int) = p' := by rw [Int.ediv_eq_of_eq_mul_right (by omega) hp]
  have eq : q / (s : Int) = q' := by rw [Int.ediv_eq_of_eq_mul_right (by omega) hq]
  have pp' : 0 < p' := by
    rw [← ep]
    exact Int.ediv_pos_of_pos_of_dvd pp (by omega) ⟨p', hp⟩
  have pq' : 0 < q' := by
    rw [← eq]
    exact Int.ediv_pos_of_pos_of_dvd pq (by omega) ⟨q', hq⟩
  have cop : Int.gcd p' q' = 1 := by
    have z := Int.gcd_ediv_gcd_ediv_gcd (i := p) (j := q) (by rw [hs]; omega)
    rw [hs, ep, eq] at z
    exact z
  generalize hn : x * q' + y * p' = n
  have v0 : 0 < Int.gcd n (s : Int) := Int.gcd_pos_of_ne_zero_right n (by omega)
  have vd : (Int.gcd n (s : Int) : Int) ∣ (s : Int) := Int.gcd_dvd_right n s
  have vn : (Int.gcd n (s : Int) : Int) ∣ n := Int.gcd_dvd_left n s
  have cq : Int.gcd (n / (Int.gcd n (s : Int) : Int)) ((s : Int) / (Int.gcd n (s : Int) : Int)) = 1 := Int.gcd_ediv_gcd_ediv_gcd v0
  have dn : n / (Int.gcd n (s : Int) : Int) ∣ n := ⟨(Int.gcd n (s : Int) : Int), (Int.ediv_mul_cancel vn).symm⟩
  have np' : Int.gcd n p' = 1 := by
    have e1 : Int.gcd n p' = Int.gcd (x * q') p' := by
      rw [← hn]
      exact gcd_add
    have e2 : Int.gcd x p' = 1 := gcd_one_of2 gp ⟨s, by rw [hp]; grind⟩
    rw [e1, Int.gcd_mul_right_left_of_gcd_eq_one e2, Int.gcd_comm]
    exact cop
  have nq' : Int.gcd n q' = 1 := by
    have e1 : Int.gcd n q' = Int.gcd (y * p') q' := by
      rw [← hn, Int.add_comm]
      exact gcd_add
    have e2 : Int.gcd y q' = 1 := gcd_one_of2 gq ⟨s, by rw [hq]; grind⟩
    rw [e1, Int.gcd_mul_right_left_of_gcd_eq_one e2]
    exact cop
  have eqv : q / (Int.gcd n (s : Int) : Int) = q' * ((s : Int) / (Int.gcd n (s : Int) : Int)) := by
    rw [hq, Int.mul_comm, Int.mul_ediv_assoc _ vd]
  show 0 < (p / (Int.gcd p q : Int)) * (q / (Int.gcd (x * (q / (Int.gcd p q : Int)) + y * (p / (Int.gcd p q : Int))) (Int.gcd p q : Int) : Int)) ∧ Int.gcd ((x * (q / (Int.gcd p q : Int)) + y * (p / (Int.gcd p q : Int))) / (Int.gcd (x * (q / (Int.gcd p q : Int)) + y * (p / (Int.gcd p q : Int))) (Int.gcd p q : Int) : Int)) ((p / (Int.gcd p q : Int)) * (q / (Int.gcd (x * (q / (Int.gcd p q : Int)) + y * (p / (Int.gcd p q : Int))) (Int.gcd p q : Int) : Int))) = 1
  rw [hs, ep, eq, hn, eqv]
  have psv : 0 < (s : Int) / (Int.gcd n (s : Int) : Int) := Int.ediv_pos_of_pos_of_dvd (by omega) (by omega) vd
  refine ⟨Int.mul_pos pp' (Int.mul_pos pq' psv), ?_⟩
  rw [Int.gcd_mul_right_right_of_gcd_eq_one (gcd_one_of np' dn), Int.gcd_mul_right_right_of_gcd_eq_one (gcd_one_of nq' dn)]
  exact cq
theorem plus_eq {a b : F} (ha : Nrm a) (hb : Nrm b) : plusM a b = nf (a.1 * b.2 + b.1 * a.2) (a.2 * b.2) := by
  refine nf_of (plus_nrm ha hb) (Int.mul_pos ha.1 hb.1) ?_
  obtain ⟨x, p⟩ := a
  obtain ⟨y, q⟩ := b
  obtain ⟨pp, gp⟩ := ha
  obtain ⟨pq, gq⟩ := hb
  simp only at *
  have s0 : 0 < Int.gcd p q := Int.gcd_pos_of_ne_zero_right p (by omega)
  obtain ⟨p', hp⟩ := Int.gcd_dvd_left p q
  obtain ⟨q', hq⟩ := Int.gcd_dvd_right p q
  generalize hs : Int.gcd p q = s at *
  have ep : p / (s : Int) = p' := by rw [Int.ediv_eq_of_eq_mul_right (by omega) hp]
  have eq : q / (s : Int) = q' := by rw [Int.ediv_eq_of_eq_mul_right (by omega) hq]
  generalize hn : x * q' + y * p' = n
  have v0 : 0 < Int.gcd n (s : Int) := Int.gcd_pos_of_ne_zero_right n (by omega)
  obtain ⟨n', vn⟩ := Int.gcd_dvd_left n (s : Int)
  obtain ⟨s', vs⟩ := Int.gcd_dvd_right n (s : Int)
  generalize hv : Int.gcd n (s : Int) = v at *
  have en : n / (v : Int) = n' := by rw [Int.ediv_eq_of_eq_mul_right (by omega) vn]
  have eqv : q / (v : Int) = s' * q' := by
    rw [Int.ediv_eq_of_eq_mul_right (by omega) (show q = (v : Int) * (s' * q') by rw [← Int.mul_assoc, ← vs, ← hq])]
  show ((x * (q / (Int.gcd p q : Int)) + y * (p / (Int.gcd p q : Int))) / (Int.gcd (x * (q / (Int.gcd p q : Int)) + y * (p / (Int.gcd p q : Int))) (Int.gcd p q : Int) : Int)) * (p * q) = (x * q + y * p) * ((p / (Int.gcd p q : Int)) * (q / (Int.gcd (x * (q / (Int.gcd p q : Int)) + y * (p / (Int.gcd p q : Int))) (Int.gcd p q : Int) : Int)))
  rw [hs, ep, eq, hn, hv, en, eqv]
  have e1 : x * q + y * p = (s : Int) * n := by
    rw [← hn, hp, hq]
    grind
  rw [e1, hp, hq, vn]
  conv => lhs; rw [vs]
  conv => rhs; rw [vs]
  grind
theorem times_nrm {a b : F} (ha : Nrm a) (hb : Nrm b) : Nrm (timesM a b) := by
  obtain ⟨x, p⟩ := a
  obtain ⟨y, q⟩ := b
  obtain ⟨pp, gp⟩ := ha
  obtain ⟨pq, gq⟩ := hb
  simp only at *
  have f0 : 0 < Int.gcd x q := Int.gcd_pos_of_ne_zero_right x (by omega)
  have s0 : 0 < Int.gcd y p := Int.gcd_pos_of_ne_zero_right y (by omega)
  have d1 := Int.gcd_dvd_left x q
  have d2 := Int.gcd_dvd_right x q
  have d3 := Int.gcd_dvd_left y p
  have d4 := Int.gcd_dvd_right y p
  have c1 : Int.gcd (x / (Int.gcd x q : Int)) (q / (Int.gcd x q : Int)) = 1 := Int.gcd_ediv_gcd_ediv_gcd f0
  have c2 : Int.gcd (y / (Int.gcd y p : Int)) (p / (Int.gcd y p : Int)) = 1 := Int.gcd_ediv_gcd_ediv_gcd s0
  have m1 : x / (Int.gcd x q : Int) ∣ x := ⟨_, (Int.ediv_mul_cancel d1).symm⟩
  have m2 : q / (Int.gcd x q : Int) ∣ q := ⟨_, (Int.ediv_mul_cancel d2).symm⟩
  have m3 : y / (Int.gcd y p : Int) ∣ y := ⟨_, (Int.ediv_mul_cancel d3).symm⟩
  have m4 : p / (Int.gcd y p : Int) ∣ p := ⟨_, (Int.ediv_mul_cancel d4).symm⟩
  have c3 : Int.gcd (x / (Int.gcd x q : Int)) (p / (Int.gcd y p : Int)) = 1 := gcd_one_of (gcd_one_of2 gp m4) m1
  have c4 : Int.gcd (y / (Int.gcd y p : Int)) (q / (Int.gcd x q : Int)) = 1 := gcd_one_of (gcd_one_of2 gq m2) m3
  refine ⟨Int.mul_pos (Int.ediv_pos_of_pos_of_dvd pp (by omega) d4) (Int.ediv_pos_of_pos_of_dvd pq (by omega) d2), ?_⟩
  show Int.gcd ((x / (Int.gcd x q : Int)) * (y / (Int.gcd y p : Int))) ((p / (Int.gcd y p : Int)) * (q / (Int.gcd x q : Int))) = 1
  have t1 : Int.gcd ((x / (Int.gcd x q : Int)) * (y / (Int.gcd y p : Int))) (p / (Int.gcd y p : Int)) = 1 := by
    rw [Int.gcd_mul_right_left_of_gcd_eq_one c3]
    exact c2
  rw [Int.gcd_mul_right_right_of_gcd_eq_one t1, Int.gcd_mul_right_left_of_gcd_eq_one c1]
  exact c4
theorem times_eq {a b : F} (ha : Nrm a) (hb : Nrm b) : timesM a b = nf (a.1 * b.1) (a.2 * b.2) := by
  refine nf_of (times_nrm ha hb) (Int.mul_pos ha.1 hb.1) ?_
  obtain ⟨x, p⟩ := a
  obtain ⟨y, q⟩ := b
  obtain ⟨pp, gp⟩ := ha
  obtain ⟨pq, gq⟩ := hb
  simp only at *
  have f0 : 0 < Int.gcd x q := Int.gcd_pos_of_ne_zero_right x (by omega)
  have s0 : 0 < Int.gcd y p := Int.gcd_pos_of_ne_zero_right y (by omega)
  obtain ⟨x', h1⟩ := Int.gcd_dvd_left x q
  obtain ⟨q', h2⟩ := Int.gcd_dvd_right x q
  obtain ⟨y', h3⟩ := Int.gcd_dvd_left y p
  obtain ⟨p', h4⟩ := Int.gcd_dvd_right y p
  show ((x / (Int.gcd x q : Int)) * (y / (Int.gcd y p : Int))) * (p * q) = (x * y) * ((p / (Int.gcd y p : Int)) * (q / (Int.gcd x q : Int)))
  generalize hf : Int.gcd x q = f at *
  generalize hs : Int.gcd y p = s at *
  have e1 : x / (f : Int) = x' := by rw [Int.ediv_eq_of_eq_mul_right (by omega) h1]
  have e2 : q / (f : Int) = q' := by rw [Int.ediv_eq_of_eq_mul_right (by omega) h2]
  have e3 : y / (s : Int) = y' := by rw [Int.ediv_eq_of_eq_mul_right (by omega) h3]
  have e4 : p / (s : Int) = p' := by rw [Int.ediv_eq_of_eq_mul_right (by omega) h4]
  rw [e1, e2, e3, e4, h1, h2, h3, h4]
  grind
theorem neg_nrm {b : F} (hb : Nrm b) : Nrm (-b.1, b.2) := ⟨hb.1, by
  show Int.gcd (-b.1) b.2 = 1
  rw [Int.neg_gcd]
  exact hb.2⟩
theorem minus_eq {a b : F} (ha : Nrm a) (hb : Nrm b) : minusM a b = nf (a.1 * b.2 - b.1 * a.2) (a.2 * b.2) := by
  unfold minusM
  rw [plus_eq ha (neg_nrm hb)]
  show nf (a.1 * b.2 + -b.1 * a.2) (a.2 * b.2) = _
  rw [Int.neg_mul, ← Int.sub_eq_add_neg]
theorem minus_nrm {a b : F} (ha : Nrm a) (hb : Nrm b) : Nrm (minusM a b) := plus_nrm ha (neg_nrm hb)

/-! ### sizes -/
def Sz (n : Nat) (a : F) : Prop := a.1.natAbs < 2 ^ n ∧ a.2.natAbs < 2 ^ n
theorem sz_le {x : Int} {m n : Nat} (h : x.natAbs < 2 ^ m) (hm : m ≤ n) : x.natAbs < 2 ^ n := Nat.lt_of_lt_of_le h (Nat.pow_le_pow_right (by decide) hm)
theorem Sz.mono {m n : Nat} {a : F} (h : Sz m a) (hm : m ≤ n) : Sz n a := ⟨sz_le h.1 hm, sz_le h.2 hm⟩
theorem sz_mul {x y : Int} {m n : Nat} (h : x.natAbs < 2 ^ m) (k : y.natAbs < 2 ^ n) : (x * y).natAbs < 2 ^ (m + n) := by
  rw [Int.natAbs_mul, Nat.pow_add]
  exact Nat.mul_lt_mul'' h k
theorem sz_add {x y : Int} {m : Nat} (h : x.natAbs < 2 ^ m) (k : y.natAbs < 2 ^ m) : (x + y).natAbs < 2 ^ (m + 1) := by
  rw [Nat.pow_succ]
  omega
theorem sz_sub {x y : Int} {m : Nat} (h : x.natAbs < 2 ^ m) (k : y.natAbs < 2 ^ m) : (x - y).natAbs < 2 ^ (m + 1) := by
  rw [Nat.pow_succ]
  omega
theorem sz_neg {x : Int} {m : Nat} (h : x.natAbs < 2 ^ m) : (-x).natAbs < 2 ^ m := by
  rw [Int.natAbs_neg]
  exact h
theorem sz_div {x y : Int} {m : Nat} (h : x.natAbs < 2 ^ m) (d : y ∣ x) : (x / y).natAbs < 2 ^ m := by
  rw [Int.natAbs_ediv_of_dvd d]
  exact Nat.lt_of_le_of_lt (Nat.div_le_self _ _) h
theorem sz_gcd {x y : Int} {m : Nat} (h : y.natAbs < 2 ^ m) (hy : y ≠ 0) : ((Int.gcd x y : Nat) : Int).natAbs < 2 ^ m := Nat.lt_of_le_of_lt (by rw [Int.natAbs_natCast]; exact Int.gcd_le_natAbs_right x hy) h
theorem sz_nf {n d : Int} {m : Nat} (h : n.natAbs < 2 ^ m) (k : d.natAbs < 2 ^ m) : Sz m (nf n d) := ⟨sz_div h (Int.gcd_dvd_left n d), sz_div k (Int.gcd_dvd_right n d)⟩
theorem sz_plus {a b : F} {m n : Nat} (ha : Nrm a) (hb : Nrm b) (h : Sz m a) (k : Sz n b) : Sz (m + n + 1) (plusM a b) := by
  rw [plus_eq ha hb]
  refine sz_nf (sz_add (sz_mul h.1 k.2) ?_) (sz_le (sz_mul h.2 k.2) (by omega))
  rw [Nat.add_comm m n]
  exact sz_mul k.1 h.2
theorem sz_minus {a b : F} {m n : Nat} (ha : Nrm a) (hb : Nrm b) (h : Sz m a) (k : Sz n b) : Sz (m + n + 1) (minusM a b) := sz_plus ha (neg_nrm hb) h ⟨sz_neg k.1, k.2⟩
theorem sz_times {a b : F} {m n : Nat} (ha : Nrm a) (hb : Nrm b) (h : Sz m a) (k : Sz n b) : Sz (m + n) (timesM a b) := by
  rw [times_eq ha hb]
  exact sz_nf (sz_mul h.1 k.1) (sz_mul h.2 k.2)
/-! ### the law's own gcd -/
theorem gcd_step (a b : Int) : Int.gcd b (a % b) = Int.gcd a b := by
  have e : a % b = a + (-(a / b)) * b := by
    rw [Int.emod_def]
    grind
  rw [Int.gcd_comm, e, gcd_add]
/-! ### the law's own -/
def lplus (a b : F) : F := lf (a.1 * b.2 + b.1 * a.2) (a.2 * b.2)
def lminus (a b : F) : F := lf (a.1 * b.2 - b.1 * a.2) (a.2 * b.2)
def ltimes (a b : F) : F := lf (a.1 * b.1) (a.2 * b.2)
theorem lf_pos {n d : Int} (h : 0 < d) : lf n d = nf n d := by
  unfold lf
  exact if_neg (by omega)
theorem lplus_eq {a b : F} (ha : Nrm a) (hb : Nrm b) : lplus a b = plusM a b := by
  unfold lplus
  rw [lf_pos (Int.mul_pos ha.1 hb.1), plus_eq ha hb]
theorem lminus_eq {a b : F} (ha : Nrm a) (hb : Nrm b) : lminus a b = minusM a b := by
  unfold lminus
  rw [lf_pos (Int.mul_pos ha.1 hb.1), minus_eq ha hb]
theorem ltimes_eq {a b : F} (ha : Nrm a) (hb : Nrm b) : ltimes a b = timesM a b := by
  unfold ltimes
  rw [lf_pos (Int.mul_pos ha.1 hb.1), times_eq ha hb]
/-! ### order, quotients -/
def less (a b : F) : Bool := decide (a.1 * b.2 < b.1 * a.2)
def cmpM (a b : F) : Int := if a.1 * b.2 < b.1 * a.2 then -1 else if b.1 * a.2 < a.1 * b.2 then 1 else 0
theorem le_trans {a b c : F} (ha : 0 < a.2) (hb : 0 < b.2) (hc : 0 < c.2) (h1 : a.1 * b.2 ≤ b.1 * a.2) (h2 : b.1 * c.2 ≤ c.1 * b.2) : a.1 * c.2 ≤ c.1 * a.2 := by
  have z1 : a.1 * b.2 * c.2 ≤ b.1 * a.2 * c.2 := Int.mul_le_mul_of_nonneg_right h1 (by omega)
  have z2 : b.1 * c.2 * a.2 ≤ c.1 * b.2 * a.2 := Int.mul_le_mul_of_nonneg_right h2 (by omega)
  have z3 : (a.1 * c.2) * b.2 ≤ (c.1 * a.2) * b.2 := by grind
  exact Int.le_of_mul_le_mul_right z3 hb
theorem less_tr (a b c : F) (ha : 0 < a.2) (hb : 0 < b.2) (hc : 0 < c.2) (h1 : less b a = false) (h2 : less c b = false) : less c a = false := by
  unfold less at *
  have h1' := of_decide_eq_false h1
  have h2' := of_decide_eq_false h2
  refine decide_eq_false fun z => ?_
  have := le_trans ha hb hc (by omega) (by omega)
  omega
theorem less_as (a b : F) (h : less a b = true) : less b a = false := by
  unfold less at *
  have h := of_decide_eq_true h
  exact decide_eq_false (by omega)
/-- the best of a row, by «is i before b» -/
def bestL (f : F → F → Bool) : F → List F → F := List.foldl fun b i => if f i b then i else b
theorem bestL_snoc (f : F → F → Bool) (x : F) (xs : List F) (i : F) : bestL f x (xs ++ [i]) = if f i (bestL f x xs) then i else bestL f x xs := by
  unfold bestL
  rw [List.foldl_append]
  rfl
theorem bestL_mem (f : F → F → Bool) : ∀ (xs : List F) (x : F), bestL f x xs = x ∨ bestL f x xs ∈ xs
  | [], x => .inl rfl
  | i :: xs, x => by
    have e : bestL f x (i :: xs) = bestL f (if f i x then i else x) xs := rfl
    rw [e]
    rcases bestL_mem f xs (if f i x then i else x) with h | h
    · rw [h]
      by_cases c : f i x = true
      · rw [if_pos c]
        exact .inr List.mem_cons_self
      · rw [if_neg c]
        exact .inl rfl
    · exact .inr (List.mem_cons_of_mem _ h)
theorem bestL_min {f : F → F → Bool} (tr : ∀ a b c : F, 0 < a.2 → 0 < b.2 → 0 < c.2 → f b a = false → f c b = false → f c a = false) (as : ∀ a b, f a b = true → f b a = false) :
    ∀ (xs : List F) (x : F), 0 < x.2 → (∀ y ∈ xs, 0 < y.2) → (∀ y ∈ xs, f y (bestL f x xs) = false) ∧ f x (bestL f x xs) = false
  | [], x, _, _ => ⟨fun _ h => by simp at h, by
      show f x x = false
      cases e : f x x with
      | false => rfl
      | true => exact (e.symm.trans (as x x e)).symm ▸ rfl⟩
  | i :: xs, x, hx, hs => by
    have hi := hs i List.mem_cons_self
    have hr : ∀ y ∈ xs, 0 < y.2 := fun y hy => hs y (List.mem_cons_of_mem _ hy)
    show (∀ y ∈ i :: xs, f y (bestL f (if f i x then i else x) xs) = false) ∧ f x (bestL f (if f i x then i else x) xs) = false
    have pos : ∀ z : F, 0 < z.2 → 0 < (bestL f z xs).2 := fun z hz => by
      rcases bestL_mem f xs z with e | e
      · rw [e]; exact hz
      · exact hr _ e
    by_cases c : f i x = true
    · rw [if_pos c]
      obtain ⟨h1, h2⟩ := bestL_min tr as xs i hi hr
      refine ⟨fun y hy => ?_, tr _ _ _ (pos i hi) hi hx h2 (as _ _ c)⟩
      rcases List.mem_cons.mp hy with rfl | hy
      · exact h2
      · exact h1 y hy
    · rw [if_neg c]
      have c := Bool.eq_false_iff.mpr c
      obtain ⟨h1, h2⟩ := bestL_min tr as xs x hx hr
      refine ⟨fun y hy => ?_, h2⟩
      rcases List.mem_cons.mp hy with rfl | hy
      · exact tr _ _ _ (pos x hx) hx hi h2 c
      · exact h1 y hy
/-! ### quotients -/
def invM (b : F) : F := if b.1 < 0 then (-b.2, -b.1) else (b.2, b.1)
def overM (a b : F) : F := timesM a (invM b)
theorem inv_nrm {b : F} (hb : Nrm b) (h : b.1 ≠ 0) : Nrm (invM b) := by
  unfold invM
  split
  · refine ⟨by show 0 < -b.1; omega, ?_⟩
    show Int.gcd (-b.2) (-b.1) = 1
    rw [Int.neg_gcd, Int.gcd_neg, Int.gcd_comm]
    exact hb.2
  · refine ⟨by show 0 < b.1; omega, ?_⟩
    show Int.gcd b.2 b.1 = 1
    rw [Int.gcd_comm]
    exact hb.2
theorem inv_mul (b : F) : (invM b).1 * b.1 = (invM b).2 * b.2 := by
  unfold invM
  split
  · show -b.2 * b.1 = -b.1 * b.2
    grind
  · show b.2 * b.1 = b.1 * b.2
    grind
theorem over_nrm {a b : F} (ha : Nrm a) (hb : Nrm b) (h : b.1 ≠ 0) : Nrm (overM a b) := times_nrm ha (inv_nrm hb h)
theorem times_cross {a b : F} (ha : Nrm a) (hb : Nrm b) : (timesM a b).1 * (a.2 * b.2) = (a.1 * b.1) * (timesM a b).2 := by
  rw [times_eq ha hb]
  exact nf_mul1 (Int.mul_pos ha.1 hb.1)
theorem plus_cross {a b : F} (ha : Nrm a) (hb : Nrm b) : (plusM a b).1 * (a.2 * b.2) = (a.1 * b.2 + b.1 * a.2) * (plusM a b).2 := by
  rw [plus_eq ha hb]
  exact nf_mul1 (Int.mul_pos ha.1 hb.1)
theorem minus_cross {a b : F} (ha : Nrm a) (hb : Nrm b) : (minusM a b).1 * (a.2 * b.2) = (a.1 * b.2 - b.1 * a.2) * (minusM a b).2 := by
  rw [minus_eq ha hb]
  exact nf_mul1 (Int.mul_pos ha.1 hb.1)
theorem over_cross {a b : F} (ha : Nrm a) (hb : Nrm b) (h : b.1 ≠ 0) : (overM a b).1 * (a.2 * b.1) = (a.1 * b.2) * (overM a b).2 := by
  have z := times_cross ha (inv_nrm hb h)
  unfold overM
  unfold invM at *
  split at z
  · rename_i c
    rw [if_pos c]
    simp only at z
    grind
  · rename_i c
    rw [if_neg c]
    exact z
theorem lf_cross {n d : Int} (h : d ≠ 0) : (lf n d).1 * d = n * (lf n d).2 := by
  unfold lf
  split
  · rename_i c
    have z := nf_mul1 (n := 0 - n) (show 0 < 0 - d by omega)
    grind
  · exact nf_mul1 (by omega)
/-- the program's own fraction -/
theorem fdivZ {n g : Int} (hg : 0 < g) (h : g ∣ n) : n.fdiv (-g) = (0 - n) / g := by
  rw [Int.fdiv_eq_ediv_of_dvd ((Int.neg_dvd).mpr h), Int.ediv_neg, Int.zero_sub, Int.neg_ediv_of_dvd h]
end FR

namespace PL
open PySem PySem.Spec PyProof.Rows L2 FR
variable [Nm]

section
variable {K : PySem.W.Frag} {G : Hp}
theorem dpa_ints_inv : ∀ (ns : List Int) (xs : List V), DpAll K G xs (ns.map PyData.int) → xs = ns.map V.int
  | [], _, r => by
    cases r
    rfl
  | n :: ns, _, r => by
    cases r with
    | cons r1 r2 =>
      cases r1
      rw [dpa_ints_inv ns _ r2, List.map_cons]
theorem dpa_at {vs : List V} {ds : List PyData} {i : Int} {x : PyData} (r : DpAll K G vs ds) (h : atI ds i = some x) : ∃ v, atI vs i = some v ∧ Dp K G v x := by
  unfold atI at h ⊢
  rw [dpa_len r]
  cases e : ixN ds.length i with
  | none => rw [e] at h; simp at h
  | some j =>
    rw [e] at h
    exact dpa_get r h
end
section
variable {K : PySem.W.Frag} {ρ ρ1 : Rho} {I J L N : Asn} {ta tb tc te : TE} {d e : Dat} {t u : TT} {b c : Bool} {p : Addr} {C C' : DS}
theorem e_ixT' {ds : List PyData} {i : Int} {x : PyData} (ha : E K ta ρ I (.t ds) J) (hb : E K tb ρ J (.i i) L) (h : atI ds i = some x) : E K (tOp (rIxT K) ta tb) ρ I (.d x) L :=
  e_op ha hb fun G H a b gh lo dx dy Q q => by
    cases dx with
    | tup s r =>
      obtain rfl := dv_int dy
      obtain ⟨v, h1, h2⟩ := dpa_at r h
      exact ⟨_, _, _, v, rfl, rfl, same_t gh s, h1, q v G H (Same.refl _) gh lo h2⟩
theorem e_ixL' {ds : List PyData} {i : Int} {x : PyData} (ha : E K ta ρ I (.d (.list ds)) J) (hb : E K tb ρ J (.i i) L) (h : atI ds i = some x) : E K (tOp (rIxL K) ta tb) ρ I (.d x) L :=
  e_op ha hb fun G H a b gh lo dx dy Q q => by
    cases dx with
    | lst s r =>
      obtain rfl := dv_int dy
      obtain ⟨v, h1, h2⟩ := dpa_at r h
      exact ⟨_, _, _, v, rfl, rfl, gh.seq s, h1, q v G H (Same.refl _) gh lo h2⟩
/-! ### fractions as data -/
abbrev fr (a : F) : PyData := .tuple [.int a.1, .int a.2]
theorem e_f1 {a : F} (ha : E K ta ρ I (.d (fr a)) J) (hb : E K tb ρ J (.i 0) L) : E K (tOp (rIxT K) ta tb) ρ I (.i a.1) L := e_ixT' ha hb rfl
theorem e_f2 {a : F} (ha : E K ta ρ I (.d (fr a)) J) (hb : E K tb ρ J (.i 1) L) : E K (tOp (rIxT K) ta tb) ρ I (.i a.2) L := e_ixT' ha hb rfl
theorem e_frac {tr : TA} {x y : Int} {a : F} (hr : A K tr ρ I [.i x, .i y] J) (h : a = (x, y)) : E K (tTup tr) ρ I (.d (fr a)) J := by
  subst h
  exact e_tup hr (.cons (.cons .nil)) (show 2 ≤ 100000 by decide)
/-- a fraction in lowest terms below 2 ^ n -/
structure Ok (n : Nat) (a : F) : Prop where
  nrm : Nrm a
  sz : Sz n a
theorem Ok.mono {m n : Nat} {a : F} (h : Ok m a) (hm : m ≤ n) : Ok n a := ⟨h.nrm, h.sz.mono hm⟩
theorem ok_plus {m n : Nat} {a b : F} (h : Ok m a) (k : Ok n b) : Ok (m + n + 1) (plusM a b) := ⟨plus_nrm h.nrm k.nrm, sz_plus h.nrm k.nrm h.sz k.sz⟩
theorem ok_minus {m n : Nat} {a b : F} (h : Ok m a) (k : Ok n b) : Ok (m + n + 1) (minusM a b) := ⟨minus_nrm h.nrm k.nrm, sz_minus h.nrm k.nrm h.sz k.sz⟩
theorem ok_times {m n : Nat} {a b : F} (h : Ok m a) (k : Ok n b) : Ok (m + n) (timesM a b) := ⟨times_nrm h.nrm k.nrm, sz_times h.nrm k.nrm h.sz k.sz⟩
theorem ok_neg {n : Nat} {b : F} (k : Ok n b) : Ok n (-b.1, b.2) := ⟨neg_nrm k.nrm, sz_neg k.sz.1, k.sz.2⟩
theorem ok_lf {n : Nat} {x y : Int} (hy : y ≠ 0) (hx : x.natAbs < 2 ^ n) (hz : y.natAbs < 2 ^ n) : Ok n (lf x y) := by
  refine ⟨lf_nrm hy, ?_⟩
  unfold lf
  split
  · exact sz_nf (by rw [Int.zero_sub, Int.natAbs_neg]; exact hx) (by rw [Int.zero_sub, Int.natAbs_neg]; exact hz)
  · exact sz_nf hx hz
theorem divW {i j : Int} {n : Nat} (h : 0 < j) (hb : j.natAbs < 2 ^ n) (hn : n ≤ 9000) : CDivW i j := wide_div (b := 9000) h (sz_le hb hn) (by decide) (by decide)
theorem mulW {i j : Int} {m n : Nat} (ha : i.natAbs < 2 ^ m) (hb : j.natAbs < 2 ^ n) (h : m + n ≤ 900000) : CMulW i j := wide_mul (a := m + 1) (b := n + 1) (sz_le ha (by omega)) (sz_le hb (by omega)) (by omega) (by omega) (by omega)
theorem gcdN {i j : Int} : ((Nat.gcd i.natAbs j.natAbs : Nat) : Int) = (Int.gcd i j : Int) := rfl
/-! ### what the common defs promise -/
def RPlus (f : F → F → F) (ds : List Dat) (d : Dat) : Prop := ∃ a b : F, ds = [.d (fr a), .d (fr b)] ∧ Ok 4000 a ∧ Ok 4000 b ∧ d = .d (fr (f a b))
theorem RPlus.mk {f : F → F → F} {a b : F} {m n : Nat} (ha : Ok m a) (hb : Ok n b) (hm : m ≤ 4000 := by omega) (hn : n ≤ 4000 := by omega) : RPlus f [.d (fr a), .d (fr b)] (.d (fr (f a b))) := ⟨a, b, rfl, ha.mono hm, hb.mono hn, rfl⟩
theorem RPlus.len {f : F → F → F} {ds : List Dat} {d : Dat} (h : RPlus f ds d) : ds.length = 2 := by
  obtain ⟨a, b, rfl, _⟩ := h
  rfl
/-- of two vectors -/
def vc (a b : F) : PyData := .tuple [fr a, fr b]
def RGcd (ds : List Dat) (d : Dat) : Prop := ∃ x y : Int, ds = [.i x, .i y] ∧ 0 ≤ x ∧ 0 ≤ y ∧ d = .i (Int.gcd x y : Int)
def RF (ds : List Dat) (d : Dat) : Prop := ∃ x y : Int, ds = [.i x, .i y] ∧ y ≠ 0 ∧ x.natAbs < 2 ^ 8500 ∧ y.natAbs < 2 ^ 8500 ∧ d = .d (fr (lf x y))
theorem RF.mk {x y : Int} {m n : Nat} (h0 : y ≠ 0) (hx : x.natAbs < 2 ^ m) (hy : y.natAbs < 2 ^ n) (hm : m ≤ 8500 := by omega) (hn : n ≤ 8500 := by omega) : RF [.i x, .i y] (.d (fr (lf x y))) := ⟨x, y, rfl, h0, sz_le hx hm, sz_le hy hn, rfl⟩
def RTake (ds : List Dat) (C : DS) (d : Dat) (C' : DS) : Prop := ∃ m : Int, ds = [.i m] ∧ DOk C ∧ 0 < m ∧ m.natAbs < 2 ^ 8500 ∧ d = .i (take C m).1 ∧ C' = (take C m).2
/-- draws from -m to m -/
def RSigned (ds : List Dat) (C : DS) (d : Dat) (C' : DS) : Prop := ∃ m : Int, ds = [.i m] ∧ DOk C ∧ 0 ≤ m ∧ m.natAbs < 2 ^ 8000 ∧ d = .i ((take C (2 * m + 1)).1 - m) ∧ C' = (take C (2 * m + 1)).2
def partM (C : DS) (m : Int) : F × DS :=
  let p := take C (2 * (m * 2) + 1)
  let q := take p.2 3
  (lf (p.1 - m * 2) (1 + q.1), q.2)
def RPart (ds : List Dat) (C : DS) (d : Dat) (C' : DS) : Prop := ∃ m : Int, ds = [.i m] ∧ DOk C ∧ 0 ≤ m ∧ m.natAbs < 2 ^ 7000 ∧ d = .d (fr (partM C m).1) ∧ C' = (partM C m).2
theorem part_ok {C : DS} {m : Int} {n : Nat} (h : DOk C) (hm : 0 ≤ m) (hn : m.natAbs < 2 ^ n) : DOk (partM C m).2 ∧ Ok (n + 2) (partM C m).1 := by
  obtain ⟨h1, h2, h3⟩ := take_ok (C := C) (m := 2 * (m * 2) + 1) h (by omega)
  obtain ⟨h4, h5, h6⟩ := take_ok (C := (take C (2 * (m * 2) + 1)).2) (m := 3) h1 (by omega)
  refine ⟨h4, ok_lf ?_ ?_ ?_⟩
  · omega
  · have : (2 : Nat) ^ (n + 2) = 4 * 2 ^ n := by rw [Nat.pow_add]; omega
    omega
  · have : (2 : Nat) ^ (n + 2) = 4 * 2 ^ n := by rw [Nat.pow_add]; omega
    have := Nat.one_le_two_pow (n := n)
    omega
def vecM (C : DS) (m : Int) : (F × F) × DS :=
  let p := partM C m
  let q := partM p.2 m
  ((p.1, q.1), q.2)
theorem vec_ok {C : DS} {m : Int} {n : Nat} (h : DOk C) (hm : 0 ≤ m) (hn : m.natAbs < 2 ^ n) : DOk (vecM C m).2 ∧ Ok (n + 2) (vecM C m).1.1 ∧ Ok (n + 2) (vecM C m).1.2 :=
  ⟨(part_ok (part_ok h hm hn).1 hm hn).1, (part_ok h hm hn).2, (part_ok (part_ok h hm hn).1 hm hn).2⟩
def RVec (ds : List Dat) (C : DS) (d : Dat) (C' : DS) : Prop := ∃ m : Int, ds = [.i m] ∧ DOk C ∧ 0 ≤ m ∧ m.natAbs < 2 ^ 7000 ∧ d = .d (.tuple [fr (vecM C m).1.1, fr (vecM C m).1.2]) ∧ C' = (vecM C m).2
/-- the script's list at the law's beginning -/
def spBegin (K : PySem.W.Frag) : Sp := fun vs H Q _ => ∃ (a : Addr) (ns : List Int) (G : Hp), vs = [.ref a] ∧ Same G H ∧ SqL K G a (ns.map V.int) ∧ ∀ G2 H2 p C, Stp NoA G H G2 H2 → DOk C → G2 p = none → H p = none → (dA K p C).ok G2 H2 → Q (.ref p) H2
theorem s_begin {ts : TS} {X : XK} {tr : TA} {ns : List Int} {i : Nat} {k : Out} (hr : A K tr ρ .tt [.d (.list (ns.map PyData.int))] .tt) (h : ∀ p C, DOk C → S K ts (ρ.set i (some (.r p))) (dJ K p C .tt) k) : S K (tSeq (tAsg (tCall (spBegin K) [] X tr) (gName i)) ts) ρ .tt k := fun G H σ D gh en io f => hr G H σ gh en io _ fun vs G1 H1 g1 gh1 j1 dvs => by
  rw [List.append_nil]
  obtain ⟨v, rfl, h1⟩ := dva1 dvs
  cases h1 with
  | lst s r =>
    rename_i a xs
    obtain rfl := dpa_ints_inv ns xs r
    refine ⟨a, ns, G1, rfl, gh1, s, fun G2 H2 p C st ok gp hp k => ?_⟩
    exact h p C ok G2 H2 _ D st.gh (env_set (d := .r p) rfl (env_mono (g1.trans st.gg) en)) ⟨k, trivial⟩ (f.mono (g1.trans st.gg))
theorem s_beginT {ts : TS} {X : XK} {tr : TA} {ns : List Int} {i : Nat} {k : Out} (hr : A K tr ρ I [.d (.list (ns.map PyData.int))] I) (h : ∀ p C, DOk C → ¬ I.foot p → S K ts (ρ.set i (some (.r p))) (dJ K p C I) k) : S K (tSeq (tAsg (tCall (spBegin K) [] X tr) (gName i)) ts) ρ I k := fun G H σ D gh en io f => hr G H σ gh en io _ fun vs G1 H1 g1 gh1 j1 dvs => by
  rw [List.append_nil]
  obtain ⟨v, rfl, h1⟩ := dva1 dvs
  cases h1 with
  | lst s r =>
    rename_i a xs
    obtain rfl := dpa_ints_inv ns xs r
    refine ⟨a, ns, G1, rfl, gh1, s, fun G2 H2 p C st ok gp hp k => ?_⟩
    refine h p C ok (fun z => ?_) G2 H2 _ D st.gh (env_set (d := .r p) rfl (env_mono (g1.trans st.gg) en)) ⟨k, Asn.pure_st st j1⟩ (f.mono (g1.trans st.gg))
    obtain ⟨o, ho⟩ := I.own G1 H1 p j1 z
    rw [ho] at hp
    cases hp
theorem s_rtT {ts : TS} (h : S K ts ρ I (.rt d J)) : S K ts ρ I (.rt d .tt) := fun G H σ D gh en io f => h G H σ D gh en io fun v G2 H2 g2 gh2 _ dv => f v G2 H2 g2 gh2 trivial dv
end
theorem e_gcdI {i j : Int} {K : PySem.W.Frag} {ρ : Rho} {I J : Asn} {tr : TA} (hr : A K tr ρ I [.i i, .i j] J) : E K (tCB rGcd tr) ρ I (.i (Int.gcd i j : Nat)) J := e_gcd hr
theorem gcd_abs {x y : Int} : Int.gcd (x.natAbs : Int) y = Int.gcd x y := by simp [Int.gcd]
theorem cxK {CX : CXT} {P : Program} {w : World} {K : PySem.W.Frag} {mg : Str → Option Value} {base : Heap} {N : List Str} {q : Str} {sc : Scope} {f : Addr} {cd : Value} {A : Around} {o : List Env} {s : Shared} {H : Hp} {E : XK} :
    (cxOf CX P w K mg base N q sc f cd A o s H E).K = K := rfl
section
variable {K : PySem.W.Frag} {ρ ρ1 : Rho} {I : Asn} {ta tb tc te : TE} {d e : Dat} {t u : TT} {b c : Bool} {ts us : TS} {k : Out}
/-! ### the same where nothing changes -/
theorem p_cons {tr : TA} {ds : List Dat} (ha : E K ta ρ I d I) (hr : A K tr ρ I ds I) : A K (tCons ta tr) ρ I (d :: ds) I := a_cons ha hr
theorem p_f1 {a : F} (ha : E K ta ρ I (.d (fr a)) I) : E K (tOp (rIxT K) ta (tC (.int 0))) ρ I (.i a.1) I := e_f1 ha e_int
theorem p_f2 {a : F} (ha : E K ta ρ I (.d (fr a)) I) : E K (tOp (rIxT K) ta (tC (.int 1))) ρ I (.i a.2) I := e_f2 ha e_int
theorem p_add {i j : Int} (ha : E K ta ρ I (.i i) I) (hb : E K tb ρ I (.i j) I) : E K (tOp (rI0 fun i j => .int (i + j)) ta tb) ρ I (.i (i + j)) I := e_add ha hb
theorem p_sub {i j : Int} (ha : E K ta ρ I (.i i) I) (hb : E K tb ρ I (.i j) I) : E K (tOp (rI0 fun i j => .int (i - j)) ta tb) ρ I (.i (i - j)) I := e_sub ha hb
theorem p_mul {i j : Int} (ha : E K ta ρ I (.i i) I) (hb : E K tb ρ I (.i j) I) (hc : CMulW i j) : E K (tOp (rI CMulW fun i j => .int (i * j)) ta tb) ρ I (.i (i * j)) I := e_mul ha hb hc
theorem p_div {i j : Int} (ha : E K ta ρ I (.i i) I) (hb : E K tb ρ I (.i j) I) (hc : CDivW i j) : E K (tOp (rI CDivW fun i j => .int (i / j)) ta tb) ρ I (.i (i / j)) I := e_div ha hb hc
theorem p_mod {i j : Int} (ha : E K ta ρ I (.i i) I) (hb : E K tb ρ I (.i j) I) (hc : 0 < j) : E K (tOp (rI (fun _ j => 0 < j) fun i j => .int (i % j)) ta tb) ρ I (.i (i % j)) I := e_mod ha hb hc
theorem p_pow {i j : Int} (ha : E K ta ρ I (.i i) I) (hb : E K tb ρ I (.i j) I) (hc : CPow i j) : E K (tOp (rI CPow fun i j => .int (i ^ j.toNat)) ta tb) ρ I (.i (i ^ j.toNat)) I := e_pow ha hb hc
theorem p_lt {i j : Int} (ha : E K ta ρ I (.i i) I) (hb : E K tb ρ I (.i j) I) : E K (tOp (rI0 fun i j => .bl (decide (i < j))) ta tb) ρ I (.b (decide (i < j))) I := e_lt ha hb
theorem p_le {i j : Int} (ha : E K ta ρ I (.i i) I) (hb : E K tb ρ I (.i j) I) : E K (tOp (rI0 fun i j => .bl (decide (i ≤ j))) ta tb) ρ I (.b (decide (i ≤ j))) I := e_le ha hb
theorem p_gt {i j : Int} (ha : E K ta ρ I (.i i) I) (hb : E K tb ρ I (.i j) I) : E K (tOp (rI0 fun i j => .bl (decide (j < i))) ta tb) ρ I (.b (decide (j < i))) I := e_gt ha hb
theorem p_ge {i j : Int} (ha : E K ta ρ I (.i i) I) (hb : E K tb ρ I (.i j) I) : E K (tOp (rI0 fun i j => .bl (decide (j ≤ i))) ta tb) ρ I (.b (decide (j ≤ i))) I := e_ge ha hb
theorem p_eqI {i j : Int} (ha : E K ta ρ I (.i i) I) (hb : E K tb ρ I (.i j) I) : E K (tOp rEq ta tb) ρ I (.b (decide (i = j))) I := e_eqI ha hb
theorem p_neI {i j : Int} (ha : E K ta ρ I (.i i) I) (hb : E K tb ρ I (.i j) I) : E K (tOp rNe ta tb) ρ I (.b (!decide (i = j))) I := e_neI ha hb
theorem p_neg {i : Int} (ha : E K ta ρ I (.i i) I) : E K (tUn (rU fun i => .int (-i)) ta) ρ I (.i (-i)) I := e_neg ha
theorem p_gcd {i j : Int} {tr : TA} (hr : A K tr ρ I [.i i, .i j] I) : E K (tCB rGcd tr) ρ I (.i (Int.gcd i j : Nat)) I := e_gcd hr
theorem p_int1 {i : Int} {tr : TA} (hr : A K tr ρ I [.i i] I) : E K (tCB (fun xs H Q => (∃ i, xs = [.int i] ∧ Q (.int i) H) ∨ ∃ k, xs = [.bl k] ∧ Q (.int (if k then 1 else 0)) H) tr) ρ I (.i i) I := e_int1 hr
theorem p_abs {i : Int} {tr : TA} (hr : A K tr ρ I [.i i] I) : E K (tCB (fun xs H Q => ∃ i, xs = [.int i] ∧ Q (.int (if i < 0 then -i else i)) H) tr) ρ I (.i (i.natAbs : Nat)) I := e_abs hr
theorem p_len {ds : List PyData} {tr : TA} (hr : A K tr ρ I [.d (.list ds)] I) : E K (tCB (fun xs H Q => ∃ p ys, xs = [.ref p] ∧ (SqL K H p ys ∨ SqT K H p ys) ∧ Q (.int ys.length) H) tr) ρ I (.i (ds.length : Nat)) I := e_len hr
theorem p_lenT {ds : List PyData} {tr : TA} (hr : A K tr ρ I [.t ds] I) : E K (tCB (fun xs H Q => ∃ p ys, xs = [.ref p] ∧ (SqL K H p ys ∨ SqT K H p ys) ∧ Q (.int ys.length) H) tr) ρ I (.i (ds.length : Nat)) I := e_lenT hr
theorem p_ixT {ds : List PyData} {i : Int} {x : PyData} (ha : E K ta ρ I (.t ds) I) (hb : E K tb ρ I (.i i) I) (h : atI ds i = some x) : E K (tOp (rIxT K) ta tb) ρ I (.d x) I := e_ixT' ha hb h
theorem p_i0 {ds : List PyData} {x : PyData} (ha : E K ta ρ I (.t (x :: ds)) I) : E K (tOp (rIxT K) ta (tC (.int 0))) ρ I (.d x) I := e_ixT (j := 0) ha e_int rfl
theorem p_i1 {ds : List PyData} {x y : PyData} (ha : E K ta ρ I (.t (x :: y :: ds)) I) : E K (tOp (rIxT K) ta (tC (.int 1))) ρ I (.d y) I := e_ixT (j := 1) ha e_int rfl
theorem p_i2 {ds : List PyData} {x y z : PyData} (ha : E K ta ρ I (.t (x :: y :: z :: ds)) I) : E K (tOp (rIxT K) ta (tC (.int 2))) ρ I (.d z) I := e_ixT (j := 2) ha e_int rfl
theorem p_ixL {ds : List PyData} {i : Int} {x : PyData} (ha : E K ta ρ I (.d (.list ds)) I) (hb : E K tb ρ I (.i i) I) (h : atI ds i = some x) : E K (tOp (rIxL K) ta tb) ρ I (.d x) I := e_ixL' ha hb h
theorem p_call {T : Tbs} {R : List Dat → Dat → Prop} {X : XK} {tr : TA} {ds : List Dat} [HasT T I] (hr : A K tr ρ I ds I) (h : R ds d) : E K (tCall (spT K T R) [] X tr) ρ I d I := e_call hr h
theorem p_frac {tr : TA} {x y : Int} {a : F} (hr : A K tr ρ I [.i x, .i y] I) (h : a = (x, y)) : E K (tTup tr) ρ I (.d (fr a)) I := e_frac hr h
theorem p_tup {tr : TA} {ds : List Dat} {xs : List PyData} (hr : A K tr ρ I ds I) (hd : Ds ds xs) (hl : xs.length ≤ 100000) : E K (tTup tr) ρ I (.t xs) I := e_tup hr hd hl
theorem p_tup2 {tr : TA} {x y : PyData} (hr : A K tr ρ I [.d x, .d y] I) : E K (tTup tr) ρ I (.t [x, y]) I := e_tup hr (.cons (.cons .nil)) (show 2 ≤ 100000 by decide)
theorem p_asg {i : Nat} (h : E K te ρ I d I) : S K (tAsg te (gName i)) ρ I (.nx (ρ.set i (some d)) I) := s_asg h
theorem q_asg {i : Nat} (h : E K te ρ I d I) (h2 : S K us (ρ.set i (some d)) I k) : S K (tSeq (tAsg te (gName i)) us) ρ I k := s_seq (s_asg h) h2
theorem p_ret (h : E K te ρ I d I) : S K (tRet te) ρ I (.rt d I) := s_ret h
theorem p_par {i j : Nat} {tr : TA} (h : A K tr ρ I [d, e] I) : S K (tPar i j tr) ρ I (.nx ((ρ.set i (some d)).set j (some e)) I) := s_par h
theorem p_test (h : E K te ρ I (.b b) I) : T K (tTest te) ρ I b I := t_test h
theorem p_eqD {x y : PyData} (ha : E K ta ρ I (.d x) I) (hb : E K tb ρ I (.d y) I) (hx : SeqAt.shaped x = true) (hy : SeqAt.shaped y = true) : E K (tOp (rEqD K) ta tb) ρ I (.b (PyData.eqv x y)) I := e_eqD ha hb hx hy
theorem p_neD {x y : PyData} (ha : E K ta ρ I (.d x) I) (hb : E K tb ρ I (.d y) I) (hx : SeqAt.shaped x = true) (hy : SeqAt.shaped y = true) : E K (tOp (rNeD K) ta tb) ρ I (.b (!PyData.eqv x y)) I := e_neD ha hb hx hy
/-- an if by a test of known outcome; then what follows -/
theorem q_ifT {b : Bool} (h : T K t ρ I b I) (hb : b = true) (h2 : S K ts ρ I k) : S K (tIfS t ts us) ρ I k := s_ifT (hb ▸ h) h2
theorem q_ifF {b : Bool} (h : T K t ρ I b I) (hb : b = false) (h2 : S K us ρ I k) : S K (tIfS t ts us) ρ I k := s_ifF (hb ▸ h) h2
/-- an if without else that is not entered, ahead of the rest -/
theorem q_skip {b : Bool} {tr : TS} (h : T K t ρ I b I) (hb : b = false) (h2 : S K tr ρ I k) : S K (tSeq (tIfS t ts tNext) tr) ρ I k := s_seq (q_ifF h hb s_next) h2
/-- an if that returns, ahead of the rest -/
theorem q_out {b : Bool} {tr : TS} {J : Asn} (h : T K t ρ I b I) (hb : b = true) (h2 : S K ts ρ I (.rt d J)) : S K (tSeq (tIfS t ts us) tr) ρ I (.rt d J) := s_stop (q_ifT h hb h2)
variable {p : Addr} {C : DS} {J : Asn}
/-! ### the drawing list's items and stores -/
theorem d_ix0 (h : E K te ρ (dJ K p C J) (.r p) (dJ K p C J)) : E K (tOp (rIxL K) te (tC (.int 0))) ρ (dJ K p C J) (.d (.list (C.ns.map PyData.int))) (dJ K p C J) := e_dix (j := 0) h e_int rfl
theorem d_ix1 (h : E K te ρ (dJ K p C J) (.r p) (dJ K p C J)) : E K (tOp (rIxL K) te (tC (.int 1))) ρ (dJ K p C J) (.i (C.pos : Nat)) (dJ K p C J) := e_dix (j := 1) h e_int rfl
theorem d_ix2 (h : E K te ρ (dJ K p C J) (.r p) (dJ K p C J)) : E K (tOp (rIxL K) te (tC (.int 2))) ρ (dJ K p C J) (.i C.rest) (dJ K p C J) := e_dix (j := 2) h e_int rfl
theorem d_ix3 (h : E K te ρ (dJ K p C J) (.r p) (dJ K p C J)) : E K (tOp (rIxL K) te (tC (.int 3))) ρ (dJ K p C J) (.i C.seed) (dJ K p C J) := e_dix (j := 3) h e_int rfl
theorem d_set1 {n : Nat} {x : Int} (he : E K te ρ (dJ K p C J) (.i x) (dJ K p C J)) (hx : x = (n : Nat)) (h : E K ta ρ (dJ K p C J) (.r p) (dJ K p C J)) (hf : ¬ J.foot p) : S K (tAsg te (gSub ta (tC (.int 1)) rSetL)) ρ (dJ K p C J) (.nx ρ (dJ K p { C with pos := n } J)) := by
  subst hx
  exact s_dset (j := 1) (C' := { C with pos := n }) he h e_int (by decide) rfl ⟨rfl, rfl⟩ hf
theorem d_set2 {x : Int} (he : E K te ρ (dJ K p C J) (.i x) (dJ K p C J)) (h : E K ta ρ (dJ K p C J) (.r p) (dJ K p C J)) (hf : ¬ J.foot p) : S K (tAsg te (gSub ta (tC (.int 2)) rSetL)) ρ (dJ K p C J) (.nx ρ (dJ K p { C with rest := x } J)) :=
  s_dset (j := 2) (C' := { C with rest := x }) he h e_int (by decide) rfl ⟨rfl, rfl⟩ hf
theorem d_set3 {x : Int} (he : E K te ρ (dJ K p C J) (.i x) (dJ K p C J)) (h : E K ta ρ (dJ K p C J) (.r p) (dJ K p C J)) (hf : ¬ J.foot p) : S K (tAsg te (gSub ta (tC (.int 3)) rSetL)) ρ (dJ K p C J) (.nx ρ (dJ K p { C with seed := x } J)) :=
  s_dset (j := 3) (C' := { C with seed := x }) he h e_int (by decide) rfl ⟨rfl, rfl⟩ hf
theorem p_list {ds : List PyData} {tr : TA} (hr : A K tr ρ I [.d (.list ds)] I) : E K (tCB (fun xs H Q => ∃ p ys, xs = [.ref p] ∧ (SqL K H p ys ∨ SqT K H p ys) ∧ ∀ l, H l = none → Q (.ref l) (upd H l (.lst ys))) tr) ρ I (.d (.list ds)) I :=
  e_cb hr fun G H vs gh jo h Q q => by
    obtain ⟨v, rfl, h1⟩ := dva1 h
    cases h1 with
    | lst s r =>
      rename_i a xs
      refine ⟨_, _, rfl, .inl (gh.seq s), fun l hl => ?_⟩
      have st := Stp.new (o := .lst xs) gh hl
      exact q _ _ _ st.gg st.gh (Asn.pure_st st jo) (.lst (.inl (.inl upd_same)) (dp_monos st.gg ds _ r))
/-! ### the law's beginning -/
def seedF (s n : Int) : Int := (s * 69621 + n % 2147483629 + 7) % 2147483647
def seedAt (ns : List Int) : Nat → Int
  | 0 => 1
  | i + 1 => seedF (seedAt ns i) (ns.getD i 0)
theorem seed_ok (ns : List Int) (i : Nat) : 0 ≤ seedAt ns i ∧ seedAt ns i < 2147483647 := by
  cases i with
  | zero => exact ⟨(by decide : (0 : Int) ≤ 1), (by decide : (1 : Int) < 2147483647)⟩
  | succ i => exact ⟨Int.emod_nonneg _ (by decide), Int.emod_lt_of_pos _ (by decide)⟩
/-- what _law_begin leaves -/
def begP (K : PySem.W.Frag) (G0 H0 : Hp) (v : V) (G2 H2 : Hp) : Prop := ∃ p C, v = .ref p ∧ DOk C ∧ Stp NoA G0 H0 G2 H2 ∧ G2 p = none ∧ H0 p = none ∧ (dA K p C).ok G2 H2
theorem s_retBeg {G0 H0 : Hp} {tr : TA} {ns : List Int} {sd : Int} (hs : 0 ≤ sd ∧ sd < 2147483647) (hr : A K tr ρ (.since NoA G0 H0) [.d (.list (ns.map PyData.int)), .i 0, .i 0, .i sd] (.since NoA G0 H0)) : S K (tRet (tLst tr)) ρ (.since NoA G0 H0) (.fin (begP K G0 H0)) := fun G H σ D gh en io f => hr G H σ gh en io _ fun vs G1 H1 g1 gh1 j1 dvs => by
  match vs, dvs with
  | [v0, v1, v2, v3], ⟨h0, h1, h2, h3, _⟩ =>
    obtain rfl := dv_int h1
    obtain rfl := dv_int h2
    obtain rfl := dv_int h3
    cases h0 with
    | lst s r =>
      rename_i a xs
      obtain rfl := dpa_ints_inv ns xs r
      refine ⟨sz_of (show 4 ≤ 100000 by decide), fun p hp => ?_⟩
      have st := Stp.newM (o := HO.lst [.ref a, .int 0, .int 0, .int sd]) gh1 hp
      have gp : G1 p = none := gh1.free hp
      have hp0 : H0 p = none := by
        cases e : H0 p with
        | none => rfl
        | some u =>
          have j1' : Stp NoA G0 H0 G1 H1 := j1
          obtain ⟨x, hx⟩ := j1'.ex p u e
          rw [hx] at hp
          cases hp
      have j1' : Stp NoA G0 H0 G1 H1 := j1
      exact f _ G1 _ g1 st.gh ⟨p, ⟨a, ns, 0, 0, sd⟩, rfl, ⟨Int.le_refl _, hs⟩, j1'.trans st, gp, hp0, gp, upd_same, s⟩
theorem body_beg {ts : TS} {N : List Str} {vs : List V} {H : Hp} {Q : VK} {X : XK} (hb : ∀ (ns : List Int) G0 H0, S K ts (some (.d (.list (ns.map PyData.int))) :: List.replicate (N.length - 1) none) (.since NoA G0 H0) (.fin (begP K G0 H0))) (h : spBegin K vs H Q X) :
    ts { nx := fun _ H' => Q .non H', rt := Q } (L2.start N vs) H := by
  obtain ⟨a, ns, G, rfl, gh, s, q⟩ := h
  refine hb ns G H G H _ _ gh ?_ (Stp.refl gh) fun v G2 H2 g2 gh2 ⟨p, C, ev, ok, st, gp, hp, k⟩ => ?_
  · unfold L2.start
    exact env_start (vs := [.ref a]) (ds := [.d (.list (ns.map PyData.int))]) _ ⟨.lst s (dpa_ints ns), trivial⟩
  · subst ev
    exact q G2 H2 p C st ok gp hp k
end
/-! ### the law itself -/
def spLaw (K : PySem.W.Frag) : Sp := fun vs H Q _ => ∃ (a : Addr) (ns : List Int), vs = [.ref a] ∧ SqL K H a (ns.map V.int) ∧ ns.length ≤ 63 ∧ ∀ H', Q (.bl true) H'
theorem len_L {K : PySem.W.Frag} {vs : List V} {H : Hp} {Q : VK} {X : XK} (h : spLaw K vs H Q X) : vs.length = 1 := by
  obtain ⟨_, _, rfl, _⟩ := h
  rfl
theorem body_L {K : PySem.W.Frag} {ts : TS} {N : List Str} {vs : List V} {H : Hp} {Q : VK} {X : XK} (hb : ∀ ns : List Int, ns.length ≤ 63 → S K ts (some (.d (.list (ns.map PyData.int))) :: List.replicate (N.length - 1) none) .tt (.rt (.b true) .tt)) (h : spLaw K vs H Q X) :
    ts { nx := fun _ H' => Q .non H', rt := Q } (L2.start N vs) H := by
  obtain ⟨a, ns, rfl, s, hl, q⟩ := h
  refine hb ns hl H H _ _ (Same.refl _) ?_ trivial fun v G2 H2 g2 gh2 _ dv => ?_
  · unfold L2.start
    exact env_start (vs := [.ref a]) (ds := [.d (.list (ns.map PyData.int))]) _ ⟨.lst s (dpa_ints ns), trivial⟩
  · obtain rfl := dv_bl dv
    exact q H2
/-- the tables as the law's run begins -/
theorem start_tabs {K : PySem.W.Frag} {H : Hp} {a : Addr} {xs : List V} {T : Tbs} (hS : SqL K H a xs) (hg : ∀ p ∈ T.gs, ∃ ps : Array Value, H p = some (.tbl ps) ∧ TriplesOk ps.toList ∧ p ∉ T.ls) (hl : ∀ p ∈ T.ls, H p = some (.tbl #[])) : ∃ G, Same G H ∧ SqL K G a xs ∧ TabsIn T G H := by
  have ne : ∀ b o, H b = some o → (∀ ps, o ≠ .tbl ps) → b ∉ T.ls := fun b o e n m => by
    rw [hl b m] at e
    exact n _ (Option.some.inj e).symm
  have at_ : ∀ b, b ∉ T.ls → (fun b => if b ∈ T.ls then none else H b) b = H b := fun b n => if_neg n
  refine ⟨fun b => if b ∈ T.ls then none else H b, fun b o e => ?_, ?_, fun p hp => ?_, fun p hp => ⟨if_pos hp, LamX.TabS.nil (hl p hp)⟩⟩
  · by_cases m : b ∈ T.ls
    · have e : (if b ∈ T.ls then none else H b) = some o := e
      rw [if_pos m] at e
      cases e
    · have e : (if b ∈ T.ls then none else H b) = some o := e
      rw [if_neg m] at e
      exact .of e
  · rcases hS with (h | ⟨o, h⟩) | h
    · exact .inl (.inl ((at_ a (ne a _ h fun _ z => by cases z)).trans h))
    · exact .inl (.inr ⟨o, (at_ a (ne a _ h fun _ z => by cases z)).trans h⟩)
    · exact .inr h
  · obtain ⟨ps, e, t, n⟩ := hg p hp
    exact ⟨ps, (at_ p n).trans e, t⟩
def spLawT (K : PySem.W.Frag) (T : Tbs) : Sp := fun vs H Q _ => ∃ (a : Addr) (ns : List Int), vs = [.ref a] ∧ SqL K H a (ns.map V.int) ∧ ns.length ≤ 63 ∧ (∃ G, Same G H ∧ SqL K G a (ns.map V.int) ∧ TabsIn T G H) ∧ ∀ H', Q (.bl true) H'
theorem len_LT {K : PySem.W.Frag} {T : Tbs} {vs : List V} {H : Hp} {Q : VK} {X : XK} (h : spLawT K T vs H Q X) : vs.length = 1 := by
  obtain ⟨_, _, rfl, _⟩ := h
  rfl
theorem body_LT {K : PySem.W.Frag} {T : Tbs} {ts : TS} {N : List Str} {vs : List V} {H : Hp} {Q : VK} {X : XK} (hb : ∀ ns : List Int, ns.length ≤ 63 → S K ts (some (.d (.list (ns.map PyData.int))) :: List.replicate (N.length - 1) none) (.tab T) (.rt (.b true) .tt)) (h : spLawT K T vs H Q X) :
    ts { nx := fun _ H' => Q .non H', rt := Q } (L2.start N vs) H := by
  obtain ⟨a, ns, rfl, _, hl, ⟨G, gh, s, tb⟩, q⟩ := h
  refine hb ns hl G H _ _ gh ?_ tb fun v G2 H2 g2 gh2 _ dv => ?_
  · unfold L2.start
    exact env_start (vs := [.ref a]) (ds := [.d (.list (ns.map PyData.int))]) _ ⟨.lst s (dpa_ints ns), trivial⟩
  · obtain rfl := dv_bl dv
    exact q H2
/-- two vectors -/
def RVec2 (f : F → F → F) (ds : List Dat) (d : Dat) : Prop := ∃ a b x y : F, ds = [.t [fr a, fr b], .t [fr x, fr y]] ∧ Ok 4000 a ∧ Ok 4000 b ∧ Ok 4000 x ∧ Ok 4000 y ∧ d = .t [fr (f a x), fr (f b y)]
theorem RVec2.len {f : F → F → F} {ds : List Dat} {d : Dat} (h : RVec2 f ds d) : ds.length = 2 := by
  obtain ⟨_, _, _, _, rfl, _⟩ := h
  rfl
theorem RVec2.mk {f : F → F → F} {a b x y : F} {m n : Nat} (ha : Ok m a) (hb : Ok m b) (hx : Ok n x) (hy : Ok n y) (hm : m ≤ 4000 := by omega) (hn : n ≤ 4000 := by omega) : RVec2 f [.t [fr a, fr b], .t [fr x, fr y]] (.t [fr (f a x), fr (f b y)]) := ⟨a, b, x, y, rfl, ha.mono hm, hb.mono hm, hx.mono hn, hy.mono hn, rfl⟩
theorem shaped_fr (a : F) : SeqAt.shaped (fr a) = true := rfl
theorem shaped_v (a b : F) : SeqAt.shaped (.tuple [fr a, fr b]) = true := rfl
theorem eqv_fr (a : F) : PyData.eqv (fr a) (fr a) = true := by simp [PyData.eqv, PyData.eqvAll]
theorem eqv_v (a b : F) : PyData.eqv (.tuple [fr a, fr b]) (.tuple [fr a, fr b]) = true := by simp [PyData.eqv, PyData.eqvAll]
end PL

namespace PL
open PySem PySem.Spec PyProof.Rows L2 FR
variable [Nm]

/-! ### defs that may raise -/
inductive Res where
  | ok (d : Dat)
  | err (C : Addr)
def RPost (K : PySem.W.Frag) (G H : Hp) (Q : VK) (X : XK) : Res → Prop
  | .ok d => ∀ v G2 H2, Stp NoA G H G2 H2 → Dv K G2 v d → Q v H2
  | .err C => ∀ G2 H2, Stp NoA G H G2 H2 → X (.ref C) none H2
def spXT (K : PySem.W.Frag) (T : Tbs) (R : List Dat → Res → Prop) : Sp := fun vs H Q X => ∃ G ds r, Same G H ∧ DvAll K G vs ds ∧ R ds r ∧ TabsIn T G H ∧ RPost K G H Q X r
abbrev spX (K : PySem.W.Frag) (R : List Dat → Res → Prop) : Sp := spXT K noT R
def outR (I : Asn) : Res → Out
  | .ok d => .rt d I
  | .err _ => .fin fun _ _ _ => False
section
variable {K : PySem.W.Frag} {ρ ρ1 : Rho} {I J L N : Asn} {ta tb tc te : TE} {d e : Dat} {t u : TT} {b c : Bool} {ts us : TS} {k : Out} {R : List Dat → Res → Prop} {tr : TA} {ds : List Dat} {tabs : Tbs}
theorem len_X {n : Nat} (hl : ∀ ds r, R ds r → ds.length = n) {vs : List V} {H : Hp} {Q : VK} {X : XK} (h : spXT K tabs R vs H Q X) : vs.length = n := by
  obtain ⟨G, ds, r, gh, dvs, hr, _, q⟩ := h
  rw [dva_len dvs, hl ds r hr]
theorem e_callX {X : XK} [hT : HasT tabs J] (hr : A K tr ρ I ds J) (h : R ds (.ok d)) : E K (tCall (spXT K tabs R) [] X tr) ρ I d J := fun G H σ gh en io Q q => hr G H σ gh en io _ fun vs G1 H1 g1 gh1 j1 dvs => by
  rw [List.append_nil]
  exact ⟨G1, ds, .ok d, gh1, dvs, h, hT.get _ _ j1, fun v G2 H2 s dv => q v G2 H2 (g1.trans s.gg) s.gh (Asn.pure_st s j1) dv⟩
/-- a call that raises: nothing behind it is looked at -/
theorem e_callE {X : XK} {C : Addr} [hT : HasT tabs J] (hr : A K tr ρ I ds J) (h : R ds (.err C)) (hx : ∀ G H, J.ok G H → X (.ref C) none H) : E K (tCall (spXT K tabs R) [] X tr) ρ I d L := fun G H σ gh en io Q q => hr G H σ gh en io _ fun vs G1 H1 g1 gh1 j1 dvs => by
  rw [List.append_nil]
  exact ⟨G1, ds, .err C, gh1, dvs, h, hT.get _ _ j1, fun G2 H2 s => hx G2 H2 (Asn.pure_st s j1)⟩
theorem body_XT {N : List Str} {vs : List V} {H : Hp} {Q : VK} {X : XK} (hb : ∀ ds r, R ds r → ∀ I : Asn, HasT tabs I → (∀ C, r = .err C → ∀ G H, I.ok G H → X (.ref C) none H) → S K ts (ds.map some ++ List.replicate (N.length - ds.length) none) I (outR I r)) (h : spXT K tabs R vs H Q X) :
    ts { nx := fun _ H' => Q .non H', rt := Q } (L2.start N vs) H := by
  obtain ⟨G, ds, r, gh, dvs, hr, tb, q⟩ := h
  have en : EnvD K G (L2.start N vs) (ds.map some ++ List.replicate (N.length - ds.length) none) := by
    unfold L2.start
    rw [dva_len dvs]
    exact env_start _ dvs
  cases r with
  | ok d => exact hb ds _ hr ((Asn.since NoA G H).and (Asn.tab tabs)) inferInstance (fun C z => by cases z) G H _ _ gh en ⟨Stp.refl gh, tb⟩ fun v G2 H2 g2 gh2 j2 dv => q v G2 H2 j2.1 dv
  | err C =>
    refine hb ds _ hr ((Asn.since NoA G H).and (Asn.tab tabs)) inferInstance (fun C' z G2 H2 j2 => ?_) G H _ _ gh en ⟨Stp.refl gh, tb⟩ fun v G2 H2 g2 gh2 z => z.elim
    cases z
    exact q G2 H2 j2.1
theorem body_X {N : List Str} {vs : List V} {H : Hp} {Q : VK} {X : XK} (hb : ∀ ds r, R ds r → ∀ I : Asn, (∀ C, r = .err C → ∀ G H, I.ok G H → X (.ref C) none H) → S K ts (ds.map some ++ List.replicate (N.length - ds.length) none) I (outR I r)) (h : spX K R vs H Q X) :
    ts { nx := fun _ H' => Q .non H', rt := Q } (L2.start N vs) H := body_XT (fun ds r hr I _ => hb ds r hr I) h
/-- a def that ends without a return -/
theorem body_XNT {N : List Str} {vs : List V} {H : Hp} {Q : VK} {X : XK} (hb : ∀ ds r, R ds r → ∀ I : Asn, HasT tabs I → (∀ C, r = .err C → ∀ G H, I.ok G H → X (.ref C) none H) →
      (r = .ok (.d .none) ∧ ∃ ρ1, S K ts (ds.map some ++ List.replicate (N.length - ds.length) none) I (.nx ρ1 I)) ∨ (∃ C, r = .err C ∧ ∀ k, S K ts (ds.map some ++ List.replicate (N.length - ds.length) none) I k)) (h : spXT K tabs R vs H Q X) :
    ts { nx := fun _ H' => Q .non H', rt := Q } (L2.start N vs) H := by
  obtain ⟨G, ds, r, gh, dvs, hr, tb, q⟩ := h
  have en : EnvD K G (L2.start N vs) (ds.map some ++ List.replicate (N.length - ds.length) none) := by
    unfold L2.start
    rw [dva_len dvs]
    exact env_start _ dvs
  have hx : ∀ C, r = .err C → ∀ G2 H2, ((Asn.since NoA G H).and (Asn.tab tabs)).ok G2 H2 → X (.ref C) none H2 := fun C z G2 H2 j2 => by
    subst z
    exact q G2 H2 j2.1
  rcases hb ds r hr ((Asn.since NoA G H).and (Asn.tab tabs)) inferInstance hx with ⟨rfl, ρ1, hs⟩ | ⟨C, rfl, hk⟩
  · exact hs G H _ _ gh en ⟨Stp.refl gh, tb⟩ fun G2 H2 σ2 g2 gh2 en2 j2 => q .non G2 H2 j2.1 .non
  · exact hk (.fin fun _ _ _ => False) G H _ _ gh en ⟨Stp.refl gh, tb⟩ fun v G2 H2 g2 gh2 z => z.elim
theorem body_XN {N : List Str} {vs : List V} {H : Hp} {Q : VK} {X : XK} (hb : ∀ ds r, R ds r → ∀ I : Asn, (∀ C, r = .err C → ∀ G H, I.ok G H → X (.ref C) none H) →
      (r = .ok (.d .none) ∧ ∃ ρ1, S K ts (ds.map some ++ List.replicate (N.length - ds.length) none) I (.nx ρ1 I)) ∨ (∃ C, r = .err C ∧ ∀ k, S K ts (ds.map some ++ List.replicate (N.length - ds.length) none) I k)) (h : spX K R vs H Q X) :
    ts { nx := fun _ H' => Q .non H', rt := Q } (L2.start N vs) H := body_XNT (fun ds r hr I _ => hb ds r hr I) h
/-- raise X(..) -/
theorem s_raise {C : Addr} {W : WX} (h : ∀ G H σ, Same G H → I.ok G H → W (.ref C) none σ H) : S K (fun _ σ H => (fun (_ : L2.St) (H : Hp) (Q : XK) => Q (.ref C) none H) σ H fun cls d H' => W cls d σ H') ρ I k :=
  fun G H σ D gh en io f => h G H σ gh io
theorem s_raise' (h : ∀ G H σ (D : Ends), Same G H → I.ok G H → ts D σ H) : S K ts ρ I k := fun G H σ D gh en io f => h G H σ D gh io
/-- a statement that raises, whatever follows -/
theorem s_dropE (h : E K te ρ I d L) (hL : ∀ G H, ¬ L.ok G H) : S K (tDrop te) ρ I k := fun G H σ D gh en io f => h G H σ gh en io _ fun v G1 H1 g1 gh1 j1 dv => absurd j1 (hL G1 H1)
theorem s_seqE {L : Asn} {ρ1 : Rho} (h : S K ts ρ I (.nx ρ1 L)) (hL : ∀ G H, ¬ L.ok G H) : S K (tSeq ts us) ρ I k := fun G H σ D gh en io f => h G H σ _ gh en io fun G1 H1 σ1 g1 gh1 en1 j1 => absurd j1 (hL G1 H1)
def Asn.no : Asn := ⟨NoA, fun _ _ => False, fun _ _ _ _ _ _ _ h => h, fun _ _ _ z => z.elim⟩
/-- an if that raises, ahead of the rest -/
theorem s_err (h : S K ts ρ I (.fin fun _ _ _ => False)) : S K (tSeq ts us) ρ I (.fin fun _ _ _ => False) := fun G H σ D gh en io f => h G H σ _ gh en io f
/-- try: x = f(..) that hands back | that raises -/
theorem s_tryOk {i : Nat} {wf : Ends → WX} [hT : HasT tabs J] (hr : A K tr ρ I ds J) (h : R ds (.ok d)) : S K (fun D σ H => (tAsg (tCallS (spXT K tabs R) (WE (wf D)) tr) (gName i)) D σ H) ρ I (.nx (ρ.set i (some d)) J) := fun G H σ D gh en io f =>
  hr G H σ gh en io _ fun vs G1 H1 g1 gh1 j1 dvs => ⟨G1, ds, .ok d, gh1, dvs, h, hT.get _ _ j1, fun v G2 H2 s dv => f G2 H2 _ (g1.trans s.gg) s.gh (env_set dv (env_mono (g1.trans s.gg) en)) (Asn.pure_st s j1)⟩
theorem s_tryErr {i : Nat} {C : Addr} {c : Value} {tsu : Addr → Value → Option Addr → TS} {Wout : WX} [hT : HasT tabs J] (hr : A K tr ρ I ds J) (h : R ds (.err C)) (he : PySem.W.exmOne K (.ref C) c = some true) (hs : ∀ a, S K (tsu a (.ref C) none) ρ J k) :
    S K (fun D σ H => (tAsg (tCallS (spXT K tabs R) (WE (wOnly K c tsu Wout D)) tr) (gName i)) D σ H) ρ I k := fun G H σ D gh en io f =>
  hr G H σ gh en io _ fun vs G1 H1 g1 gh1 j1 dvs => ⟨G1, ds, .err C, gh1, dvs, h, hT.get _ _ j1, fun G2 H2 s => ⟨true, he, fun _ a na => hs a G2 H2 σ D s.gh (env_mono (g1.trans s.gg) en) (Asn.pure_st s j1) (f.mono (g1.trans s.gg)), fun z => nomatch z⟩⟩
theorem s_tryErrAs {i j : Nat} {C : Addr} {c : Value} {tsu : Addr → Value → Option Addr → TS} {Wout : WX} [hT : HasT tabs J] (hr : A K tr ρ I ds J) (h : R ds (.err C)) (he : PySem.W.exmOne K (.ref C) c = some true) (hs : ∀ a, S K (tsu a (.ref C) none) (ρ.set j (some (.r a))) J (.rt d L)) :
    S K (fun D σ H => (tAsg (tCallS (spXT K tabs R) (WE (wAs K c j tsu Wout D)) tr) (gName i)) D σ H) ρ I (.rt d L) := fun G H σ D gh en io f =>
  hr G H σ gh en io _ fun vs G1 H1 g1 gh1 j1 dvs => ⟨G1, ds, .err C, gh1, dvs, h, hT.get _ _ j1, fun G2 H2 s => ⟨true, he, fun _ a na => hs a G2 H2 _ _ s.gh (env_set (d := .r a) rfl (env_mono (g1.trans s.gg) en)) (Asn.pure_st s j1) fun v G3 H3 g3 => f v G3 H3 ((g1.trans s.gg).trans g3), fun z => nomatch z⟩⟩
/-! ### isinstance -/
theorem e_isI {i : Int} {n : String} (h : kitB "int" n = some b) (ha : E K ta ρ I (.i i) J) : E K (tCB (rIsi K) (tCons ta (tCons (tC (.ty n)) tNil))) ρ I (.b b) J := fun G H σ gh en io Q q =>
  ha G H σ gh en io _ fun x G1 H1 g1 gh1 j1 dx => by
    obtain rfl := dv_int dx
    exact ⟨.int i, .ty n, .type "int", .type n, b, rfl, .ty n, .base (.int i), kit_ty h, q _ G1 H1 g1 gh1 j1 (.bl b)⟩
theorem tyx_t {H : Hp} {a : Addr} {xs : List V} (h : SqT K H a xs) : TyX K H (.ref a) (.type "tuple") := by
  rcases h with (h | ⟨o, h⟩) | ⟨o, its, n, h, hc, _⟩
  · exact .base (.tup h)
  · exact .fTuple h
  · exact .kTuple h hc
theorem e_isT {xs : List PyData} {n : String} (h : kitB "tuple" n = some b) (ha : E K ta ρ I (.t xs) J) : E K (tCB (rIsi K) (tCons ta (tCons (tC (.ty n)) tNil))) ρ I (.b b) J := fun G H σ gh en io Q q =>
  ha G H σ gh en io _ fun x G1 H1 g1 gh1 j1 dx => by
    cases dx with
    | tup s r => exact ⟨_, .ty n, .type "tuple", .type n, b, rfl, .ty n, tyx_t (same_t gh1 s), kit_ty h, q _ G1 H1 g1 gh1 j1 (.bl b)⟩
/-- isinstance(e, D) within an except suite -/
def tIsE (K : PySem.W.Frag) (a : Addr) (cls : Value) (dd : Option Addr) (D : Addr) (te : TE) : TE := fun σ H Q => te σ H fun x H1 => [x, V.ref D] = [V.ref a, V.ref D] ∧ cls = .ref D ∧ dd = none ∧ PySem.W.kitOne K (.ref D) (.ref D) = some true ∧ Q (.bl true) H1
theorem e_isE {a D : Addr} (ha : E K te ρ I (.r a) J) (hk : PySem.W.kitOne K (.ref D) (.ref D) = some true) : E K (tIsE K a (.ref D) none D te) ρ I (.b true) J := fun G H σ gh en io Q q => ha G H σ gh en io _ fun x G1 H1 g1 gh1 j1 dx => ⟨by rw [show x = V.ref a from dx], rfl, rfl, hk, q _ G1 H1 g1 gh1 j1 (.bl true)⟩
end
section
variable {X : Cx} {a D : Addr} {oe : Obj} {pn : List (Addr × Obj)} {cls : Value} {dd : Option Addr} {x y : Str} {p p2 pos : Pos} {e : Expr} {te : TE}
theorem pe_isE (C : ExcC X.K D) (hz : Zc cls dd oe) (hf : ∃ vs, oe.data = .fields vs) (he : PE (X.suite a ((a, oe) :: pn)) e te) (hg : Gl X ("isinstance" : Str)) (hm : X.mg "isinstance" = none) (hgy : Gl X y) (hmy : X.mg y = some (.ref D))
    (hdb : (y == ("__debug__" : Str)) = false := by decide)
    (hse : starEach [e, .Name y p2] X.env = (false, eval e X.env) :: starEach [.Name y p2] X.env := by rfl) (hpl : (backTo pos (starEach [.Name y p2] X.env)).any (·.1) = false := by rfl) :
    PE (X.suite a ((a, oe) :: pn)) (.Call (.Name "isinstance" p) [e, .Name y p2] [] pos) (tIsE X.K a cls dd D te) := by
  refine ⟨fun pins s σ H Q I h => ?_⟩
  -- the exception's class and dict are told behind e
  refine wpAny_Call_Name_kw (ld_blt (X := X.suite a ((a, oe) :: pn)) I hg hm (show bootBuiltins "isinstance" = some (.builtin "isinstance") by decide +kernel) ?_)
  refine PyProof.Rows.callWith_builtin1 ?_ hse hpl
  have pa : PA (X.suite a ((a, oe) :: pn)) [e, .Name y p2] (tCons te (tCons (tC (.ref D)) tNil)) := pa_cons he (pa_cons (pe_glob hgy hmy rfl hdb) pa_nil rfl) hse
  refine thn (pa.run pos pins s σ H (fun vs H1 => vs = [.ref a, .ref D] ∧ cls = .ref D ∧ dd = none ∧ PySem.W.kitOne X.K (.ref D) (.ref D) = some true ∧ Q (.bl true) H1) I ?_) fun us s1 ⟨vs, H1, I1, r1, q1⟩ => ?_
  · exact h
  · obtain ⟨rfl, rfl, rfl, hk, q⟩ := q1
    exact call_isE C hz hf pins s1 σ H1 _ us Q I1 r1 ⟨.ref D, .ref D, true, rfl, fun u h => h, hk, q⟩
end
/-! ### lists that may change -/
section
variable {K : PySem.W.Frag} {ρ ρ1 : Rho} {I J L N : Asn} {ta tb tc te : TE} {d e : Dat} {t u : TT} {b c : Bool} {ts us : TS} {k : Out} {tr : TA} {q : Addr} {ds : List PyData} {x : PyData}
theorem s_pre {I' : Asn} (h : ∀ G H, I.ok G H → I'.ok G H) (hs : S K ts ρ I' k) : S K ts ρ I k := fun G H σ D gh en io f => hs G H σ D gh en (h G H io) f
theorem s_post {J' : Asn} (h : ∀ G H, J.ok G H → J'.ok G H) (hs : S K ts ρ I (.nx ρ1 J)) : S K ts ρ I (.nx ρ1 J') := fun G H σ D gh en io f => hs G H σ D gh en io fun G2 H2 σ2 a b c j => f G2 H2 σ2 a b c (h G2 H2 j)
def lA (K : PySem.W.Frag) (q : Addr) (ds : List PyData) : Asn := ⟨(· = q), fun G H => G q = none ∧ ∃ vs, H q = some (.lst vs) ∧ DpAll K G vs ds, fun M G H G2 H2 n s ⟨g, vs, h, r⟩ => ⟨s.fr q _ (n q rfl) h g, vs, s.hh q _ (n q rfl) h, dp_monos s.gg ds vs r⟩, fun G H a ⟨_, vs, h, _⟩ (z : a = q) => ⟨.lst vs, by rw [z]; exact h⟩⟩
abbrev lJ (K : PySem.W.Frag) (q : Addr) (ds : List PyData) (J : Asn) : Asn := (lA K q ds).and J
theorem Stp.frz {G H : Hp} {o : HO} (gh : Same G H) (gq : G q = none) (hq : H q = some o) (nt : ∀ ps, o ≠ .tbl ps := by exact fun _ z => by cases z) : Stp (· = q) G H (upd G q o) H := by
  refine ⟨same_new gq, fun a u e => ?_, fun _ _ _ e => .of e, fun a o n e g => ?_, fun a o e => ⟨o, e⟩, fun P t => ?_⟩
  rotate_left
  · rw [upd_ne n]
    exact g
  · obtain ⟨ps, hP⟩ := t.some
    have ne : P ≠ q := fun z => by
      rw [z, hq] at hP
      exact nt ps (Option.some.inj hP)
    exact t.keep (fun g => by rw [upd_ne ne]; exact g) fun b o e _ _ => e
  · by_cases z : a = q
    · subst z
      rw [upd_same] at e
      rw [hq]
      exact .of e
    · rw [upd_ne z] at e
      exact gh a u e
/-- x = [] -/
theorem s_newL {i : Nat} (h : ∀ q, ¬ I.foot q → S K us (ρ.set i (some (.r q))) (lJ K q [] I) k) : S K (tSeq (tAsg (tLst tNil) (gName i)) us) ρ I k := fun G H σ D gh en io f =>
  ⟨Nat.zero_le _, fun p hp => by
    have s := Stp.newM (o := HO.lst []) gh hp
    have gp : G p = none := gh.free hp
    refine h p (fun z => ?_) G _ _ D s.gh (env_set (d := .r p) rfl en) ⟨⟨gp, [], upd_same, .nil⟩, Asn.pure_st s io⟩ f
    obtain ⟨o, ho⟩ := I.own G H p io z
    rw [ho] at hp
    cases hp⟩
/-- x.append(e) -/
theorem s_app {i : Nat} (he : E K te ρ (lJ K q ds J) (.d x) (lJ K q ds J)) (hi : ρ[i]? = some (some (.r q))) (hl : ds.length < 100000) (hf : ¬ J.foot q) : S K (tDrop (tBM K "list" rAppend (tVar i) (tCons te tNil))) ρ (lJ K q ds J) (.nx ρ (lJ K q (ds ++ [x]) J)) := fun G H σ D gh en io f => by
  obtain ⟨v, hv, rfl⟩ := env_get en hi
  have io' := io
  obtain ⟨⟨gq, vs, hq, r⟩, jo⟩ := io
  refine ⟨.ref q, hv, .inl ⟨rfl, _, .inl (.inl hq)⟩, he G H σ gh en io' _ fun v G1 H1 g1 gh1 j1 dv => ?_⟩
  obtain ⟨⟨gq1, vs1, hq1, r1⟩, jo1⟩ := j1
  have s := Stp.store (o := HO.lst (vs1 ++ [v])) gh1 gq1 hq1
  refine ⟨q, vs1, v, rfl, rfl, hq1, ?_, ?_⟩
  · rw [dpa_len r1]
    exact Nat.lt_of_lt_of_le hl (by decide)
  · exact f G1 _ σ g1 s.gh (env_mono g1 en) ⟨⟨gq1, _, upd_same, dpa_app r1 (.cons dv .nil)⟩, J.st _ _ _ _ _ (fun a fa (z : a = q) => hf (z ▸ fa)) s jo1⟩
theorem env_put {G : Hp} {i : Nat} (hx : Dp K G (.ref q) x) : ∀ {σ : List (Option V)} {ρ : Rho} {i : Nat}, EnvD K G σ ρ → ρ[i]? = some (some (.r q)) → EnvD K G σ (ρ.set i (some (.d x)))
  | [], [], _, _, e => by simp at e
  | s :: _, o :: _, 0, h, e => by
    have eo : o = some (.r q) := by simpa using e
    obtain ⟨h1, h2⟩ := h
    rw [eo] at h1
    obtain ⟨v, h3, h4⟩ := h1
    exact ⟨⟨v, h3, by rw [show v = V.ref q from h4]; exact hx⟩, h2⟩
  | _ :: σ, _ :: ρ, i + 1, h, e => ⟨h.1, env_put hx (i := i) h.2 (by simpa using e)⟩
  | [], _ :: _, _, h, _ => h.elim
  | _ :: _, [], _, h, _ => h.elim
/-- the list at q changes no more -/
theorem s_freeze {i : Nat} (hi : ρ[i]? = some (some (.r q))) (hf : ¬ J.foot q) (hs : S K ts (ρ.set i (some (.d (.list ds)))) J k) : S K ts ρ (lJ K q ds J) k := fun G H σ D gh en io f => by
  obtain ⟨⟨gq, vs, hq, r⟩, jo⟩ := io
  have s : Stp (· = q) G H (upd G q (.lst vs)) H := Stp.frz gh gq hq
  refine hs (upd G q (.lst vs)) H σ D s.gh (env_put (x := .list ds) (i := i) (.lst (.inl (.inl upd_same)) (dp_monos s.gg ds vs r)) (env_mono s.gg en) hi) (J.st _ _ _ _ _ (fun a fa (z : a = q) => hf (z ▸ fa)) s jo) (f.mono s.gg)
/-! ### comprehensions -/
theorem env_none {G : Hp} : ∀ {σ : List (Option V)} {ρ : Rho} {i : Nat}, EnvD K G σ ρ → EnvD K G (σ.set i none) (ρ.set i none)
  | [], [], _, _ => trivial
  | _ :: _, _ :: _, 0, h => ⟨trivial, h.2⟩
  | _ :: σ, _ :: ρ, i + 1, h => ⟨h.1, env_none (i := i) h.2⟩
  | [], _ :: _, _, h => h.elim
  | _ :: _, [], _, h => h.elim
theorem e_lc {tl : TE} {es : List PyData} {j : Nat} (hl : E K tl ρ I (.d (.list ds)) I) (hn : es.length = ds.length) (hz : ds.length ≤ 100000)
    (he : ∀ (i : Nat) x y, ds[i]? = some x → es[i]? = some y → ∀ I, E K te ((ρ.set j none).set j (some (.d x))) I (.d y) I) : E K (tLc (iList K tl) (gName j) tYes te [j]) ρ I (.d (.list es)) I := fun G H σ gh en io Q q =>
  hl G H σ gh en io _ fun v G1 H1 g1 gh1 j1 dv => by
    cases dv with
    | lst s r =>
      rename_i a xs
      refine ⟨a, rfl, ⟨_, gh1.seq s⟩, fun D hD => ?_⟩
      have gD : G1 D = none := gh1.free hD
      have lx := dpa_len r
      have nD : ∀ a, I.foot a → ¬ a = D := fun a fa z => by
        obtain ⟨o, ho⟩ := I.own G1 H1 a j1 fa
        rw [z, hD] at ho
        cases ho
      refine lc_list (xs := xs) (fun i H' => ∃ G', Same G1 G' ∧ Same G' H' ∧ I.ok G' H' ∧ (lA K D (es.take i)).ok G' H' ∧ Stp (· = D) G1 (upd H1 D (.lst [])) G' H') ?_ (fun i H' _ ⟨G', a1, a2, _⟩ => (a1.trans a2).seq s) (fun i x H' hx ⟨G', a1, a2, a3, a4, a5⟩ => ?_) (fun H' ⟨G', a1, a2, a3, a4, a5⟩ => ?_)
      · have st := Stp.newM (o := HO.lst []) gh1 hD
        exact ⟨G1, Same.refl _, st.gh, Asn.pure_st st j1, ⟨gD, [], upd_same, .nil⟩, Stp.refl st.gh⟩
      · have hi : i < xs.length := (List.getElem?_eq_some_iff.mp hx).1
        have hi2 : i < ds.length := by omega
        have hi3 : i < es.length := by omega
        obtain ⟨w, h1, h2⟩ := dpa_get r (List.getElem?_eq_getElem hi2)
        rw [hx] at h1
        obtain rfl := Option.some.inj h1
        refine ⟨by simp [wipe], ?_⟩
        refine he i _ _ (List.getElem?_eq_getElem hi2) (List.getElem?_eq_getElem hi3) (((lA K D (es.take i)).and I).and (Asn.since (· = D) G1 (upd H1 D (.lst [])))) G' H' _ a2 (env_set (d := .d _) (dp_mono a1 _ _ h2) (env_none (env_mono (g1.trans a1) en))) ⟨⟨a4, a3⟩, a5⟩ _ fun y G2 H2 g2 gh2 j2 dy => ?_
        obtain ⟨⟨⟨gq, vs, hq, r2⟩, i2⟩, st2⟩ := j2
        have st := Stp.store (o := HO.lst (vs ++ [y])) gh2 gq hq
        refine ⟨vs, hq, ?_, G2, a1.trans g2, st.gh, ?_, ⟨gq, _, upd_same, ?_⟩, st2.trans st⟩
        · rw [dpa_len r2, List.length_take]
          exact Nat.lt_of_le_of_lt (Nat.min_le_left _ _) (Nat.lt_of_le_of_lt (show i ≤ 100000 by omega) (by decide))
        · exact I.st _ _ _ _ _ nD st i2
        · rw [List.take_add_one, List.getElem?_eq_getElem hi3]
          exact dpa_app r2 (.cons dy .nil)
      · obtain ⟨gq, vs, hq, r2⟩ := a4
        have st : Stp (· = D) G' H' (upd G' D (.lst vs)) H' := Stp.frz a2 gq hq
        refine q _ (upd G' D (.lst vs)) H' ((g1.trans a1).trans st.gg) st.gh (I.st _ _ _ _ _ nD st a3) (.lst (.inl (.inl upd_same)) (dp_monos st.gg _ vs ?_))
        rw [show es = es.take xs.length by rw [List.take_of_length_le (by omega)]]
        exact r2
theorem dpa_bools : ∀ (bs : List Bool) (xs : List V) {G : Hp}, DpAll K G xs (bs.map PyData.bool) → xs = bs.map V.bl
  | [], _, _, r => by
    cases r
    rfl
  | n :: ns, _, _, r => by
    cases r with
    | cons r1 r2 =>
      cases r1
      rw [dpa_bools ns _ r2, List.map_cons]
theorem e_any {bs : List Bool} (hr : A K tr ρ I [.d (.list (bs.map PyData.bool))] J) : E K (tCB (rAny K) tr) ρ I (.b (bs.any id)) J :=
  e_cb hr fun G H vs gh jo h Q q => by
    obtain ⟨v, rfl, h1⟩ := dva1 h
    cases h1 with
    | lst s r =>
      obtain rfl := dpa_bools bs _ r
      exact ⟨_, bs, rfl, gh.seq s, q _ G H (Same.refl _) gh jo (.bl _)⟩
theorem e_notIn {y : PyData} (ha : E K ta ρ I (.d y) J) (hb : E K tb ρ J (.d (.list ds)) L) (hx : SeqAt.shaped y = true) (hy : SeqAt.shaped (.list ds) = true) : E K (tOp (rNotInD K) ta tb) ρ I (.b (!ds.any fun z => PyData.eqv z y)) L :=
  e_op ha hb fun G H a b gh lo dx dy Q q => ⟨y, ds, dp_mono gh _ _ dx, dp_mono gh _ _ dy, hx, hy, q _ G H (Same.refl _) gh lo (.bl _)⟩
abbrev rTupOf (K : PySem.W.Frag) : List V → Hp → VK → Prop := fun xs H Q => ∃ p ys, xs = [.ref p] ∧ ((SqL K H p ys ∧ ∀ l, H l = none → Q (.ref l) (upd H l (.tup ys))) ∨ (SqT K H p ys ∧ Q (.ref p) H))
theorem e_tupOf (hr : A K tr ρ I [.d (.list ds)] J) : E K (tCB (fun xs H Q => ∃ p ys, xs = [.ref p] ∧ ((SqL K H p ys ∧ ∀ l, H l = none → Q (.ref l) (upd H l (.tup ys))) ∨ (SqT K H p ys ∧ Q (.ref p) H))) tr) ρ I (.t ds) J :=
  e_cb hr fun G H vs gh jo h Q q => by
    obtain ⟨v, rfl, h1⟩ := dva1 h
    cases h1 with
    | lst s r =>
      rename_i a xs
      refine ⟨_, _, rfl, .inl ⟨gh.seq s, fun l hl => ?_⟩⟩
      have st := Stp.new (o := .tup xs) gh hl
      exact q _ _ _ st.gg st.gh (Asn.pure_st st jo) (.tup (.inl (.inl upd_same)) (dp_monos st.gg ds _ r))
theorem s_forT {tl : TE} {j : Nat} (P : Nat → Rho) (V : Nat → Asn) (hl : E K tl ρ I (.t ds) (V 0)) (h0 : ρ = P 0)
    (turn : ∀ i x, ds[i]? = some x → S K ts ((P i).set j (some (.d x))) (V i) (.nx (P (i + 1)) (V (i + 1)))) : S K (tFor (iTup K tl) (gName j) ts) ρ I (.nx (P ds.length) (V ds.length)) := fun G H σ D gh en io f => by
  refine hl G H σ gh en io _ fun v G1 H1 g1 gh1 j1 dv => ?_
  cases dv with
  | tup s r =>
    rename_i a xs
    subst h0
    refine ⟨a, rfl, ⟨_, same_t gh1 s⟩, for_tup (xs := xs) (fun i σ' H' => ∃ G', Same G1 G' ∧ Same G' H' ∧ EnvD K G' σ' (P i) ∧ (V i).ok G' H') ⟨G1, Same.refl _, gh1, env_mono g1 en, j1⟩ (fun i σ' H' _ ⟨G', a1, a2, _⟩ => same_t (a1.trans a2) s) (fun i x σ' H' hx ⟨G', a1, a2, a3, a4⟩ => ?_) (fun σ' H' ⟨G', a1, a2, a3, a4⟩ => ?_)⟩
    · have hi : i < xs.length := (List.getElem?_eq_some_iff.mp hx).1
      have hi2 : i < ds.length := by rw [← dpa_len r]; exact hi
      obtain ⟨w, h1, h2⟩ := dpa_get r (List.getElem?_eq_getElem hi2)
      rw [hx] at h1
      obtain rfl := Option.some.inj h1
      exact turn i _ (List.getElem?_eq_getElem hi2) G' H' _ _ a2 (env_set (d := .d _) (dp_mono a1 _ _ h2) a3) a4 fun G2 H2 σ2 g2 gh2 en2 j2 => ⟨G2, a1.trans g2, gh2, en2, j2⟩
    · rw [dpa_len r] at a3 a4
      exact f G' H' σ' (g1.trans a1) a2 a3 a4
theorem units65 {k : Nat} {A : Around} (hr : Room k A) : A.units + 65 < cLine := by
  have := hr.un
  omega
/-- // by any divisor but 0, below 2 ^ 9000 -/
def CDivZ (_ j : Int) : Prop := j ≠ 0 ∧ j.natAbs.log2 < 9000
theorem op_fdivZ {X : Cx} : OpR X (binaryOp .FloorDiv) (rI CDivZ fun i j => .int (i.fdiv j)) := opI fun i j _ _ _ _ _ hc q => floordiv_int hc.1 q (.inl (PyProof.noPylong_of_log2 hc.2))
theorem divZ {i j : Int} {n : Nat} (h : j ≠ 0) (hb : j.natAbs < 2 ^ n) (hn : n ≤ 9000) : CDivZ i j := ⟨h, PySem.Flt.log2_lt_of (show 0 < 9000 by decide) (sz_le hb hn)⟩
theorem p_divZ {i j : Int} (ha : E K ta ρ I (.i i) I) (hb : E K tb ρ I (.i j) I) (hc : CDivZ i j) : E K (tOp (rI CDivZ fun i j => .int (i.fdiv j)) ta tb) ρ I (.i (i.fdiv j)) I := e_I (f := fun i j => i.fdiv j) ha hb hc
end
end PL

namespace PL
open PySem PySem.Spec PyProof.Rows L2 FR
variable [Nm]

/-! ### zip of three tuples -/
def ItzT3 (K : PySem.W.Frag) (a b c : Addr) : It :=
  ⟨fun i H => ∃ (xs ys zs : List V) (x y z : V), SqT K H a xs ∧ SqT K H b ys ∧ SqT K H c zs ∧ xs[i]? = some x ∧ ys[i]? = some y ∧ zs[i]? = some z,
    fun i H v H' => ∃ T x y z, v = .ref T ∧ H T = none ∧ H' = upd H T (.tup [x, y, z]) ∧ (∀ xs, SqT K H a xs → xs[i]? = some x) ∧ (∀ ys, SqT K H b ys → ys[i]? = some y) ∧ ∀ zs, SqT K H c zs → zs[i]? = some z,
    fun i H => ∃ xs ys zs : List V, SqT K H a xs ∧ SqT K H b ys ∧ SqT K H c zs ∧ xs.length = i ∧ ys.length = i ∧ zs.length = i⟩
def St3 (z TI TO i1 i2 i3 a b c : Addr) (i : Nat) (h : Heap) : Prop := IsZip h z TI TO .none ∧ IsTupOf3 h TI (.ref i1) (.ref i2) (.ref i3) ∧ (∃ a1 a2 a3, IsTupOf3 h TO a1 a2 a3) ∧ h.IsTupleIter i1 a i ∧ h.IsTupleIter i2 b i ∧ h.IsTupleIter i3 c i
theorem turn_zip3 {P : Program} {w : World} {K : PySem.W.Frag} {elts : List Expr} {kk : Nat} {tpos : Pos} {a b c N : Addr} (ha : a < N) (hb : b < N) (hc : c < N) :
    Turn P w K (.Tuple elts kk tpos) (ItzT3 K a b c) [N + 5, N + 3, N + 4, N, N + 1, N + 2] (N + 5) (St3 (N + 5) (N + 3) (N + 4) N (N + 1) (N + 2) a b c) where
  mem := by simp
  obj := fun i h st d hd => by
    obtain ⟨hz, hTI, ⟨x, y, u, hTO⟩, ⟨o1, e1, _, d1⟩, ⟨o2, e2, _, d2⟩, ⟨o3, e3, _, d3⟩⟩ := st
    have e' : d = N + 5 ∨ d = N + 3 ∨ d = N + 4 ∨ d = N ∨ d = N + 1 ∨ d = N + 2 := by simpa using hd
    rcases e' with q | q | q | q | q | q
    · rw [q]; exact ⟨_, hz, fun v q => nomatch q⟩
    · rw [q]; exact ⟨_, hTI, fun v q => nomatch q⟩
    · rw [q]; exact ⟨_, hTO, fun v q => nomatch q⟩
    · rw [q]; exact ⟨o1, e1, fun v q => by rw [d1] at q; cases q⟩
    · rw [q]; exact ⟨o2, e2, fun v q => by rw [d2] at q; cases q⟩
    · rw [q]; exact ⟨o3, e3, fun v q => by rw [d3] at q; cases q⟩
  keep := fun i h h' st k => by
    obtain ⟨hz, hTI, ⟨x, y, u, hTO⟩, h1, h2, h3⟩ := st
    exact ⟨k _ (by simp) _ hz, k _ (by simp) _ hTI, ⟨x, y, u, k _ (by simp) _ hTO⟩, h1.at fun o q => k N (by simp) o q, h2.at fun o q => k (N + 1) (by simp) o q, h3.at fun o q => k (N + 2) (by simp) o q⟩
  item := by
    intro X hP hw hK hcm i pins s σ H E I hf st hg
    subst hP hw hK
    obtain ⟨xs, ys, zs, x, y, z, hqx, hqy, hqz, hx, hy, hz0⟩ := hg
    obtain ⟨its, rv, p, _⟩ := I.tuple hqx
    obtain ⟨its2, rv2, p2, _⟩ := I.tuple hqy
    obtain ⟨its3, rv3, p3, _⟩ := I.tuple hqz
    obtain ⟨u, hu, ru⟩ := rv.get hx
    obtain ⟨u2, hu2, ru2⟩ := rv2.get hy
    obtain ⟨u3, hu3, ru3⟩ := rv3.get hz0
    obtain ⟨hz, hTI, hTO, h1, h2, h3⟩ := st
    have hh : X.A.in1.handled = none := I.ok.hd hcm
    have S := zip_sep3 (N := N) (fp1 := [a]) (fp2 := [b]) (fp3 := [c]) (by simpa using ha) (by simpa using hb) (by simpa using hc)
    have D1 := Draws.tuple (prog := X.prog) (w := X.w) hh N a (Nat.ne_of_lt ha) its.toArray
    have D2 := Draws.tuple (prog := X.prog) (w := X.w) hh (N + 1) b (Nat.ne_of_lt (Nat.lt_succ_of_lt hb)) its2.toArray
    have D3 := Draws.tuple (prog := X.prog) (w := X.w) hh (N + 2) c (Nat.ne_of_lt (Nat.lt_succ_of_lt (Nat.lt_succ_of_lt hc))) its3.toArray
    have W := GoesN.zip3 (elts := elts) (x1 := kk) (pos := tpos) S D1 D2 D3
    have hi : i < min (min its.toArray.size its2.toArray.size) its3.toArray.size := by
      have l1 := (List.getElem?_eq_some_iff.mp hu).1
      have l2 := (List.getElem?_eq_some_iff.mp hu2).1
      have l3 := (List.getElem?_eq_some_iff.mp hu3).1
      simp only [List.size_toArray]
      omega
    refine W.goes i s (fun v s2 => ∃ x H', Inv X pins σ H' s2 ∧ RelV x v ∧ (ItzT3 X.K a b c).yld i H x H' ∧ St3 (N + 5) (N + 3) (N + 4) N (N + 1) (N + 2) a b c (i + 1) s2.heap ∧ ∀ b ∈ [N + 5, N + 3, N + 4, N, N + 1, N + 2], H' b = none) E hi ⟨hz, hTI, hTO, ⟨h1, p⟩, ⟨h2, p2⟩, ⟨h3, p3⟩⟩ fun v h' tk hY st' hk htk => ?_
    obtain ⟨T, w1, w2, w3, ev, hT, e1, e2, e3, hTup⟩ := hY
    have e1 : w1 = u := by
      have q : its[i]? = some w1 := by simpa using e1
      rw [hu] at q
      exact (Option.some.inj q).symm
    have e2 : w2 = u2 := by
      have q : its2[i]? = some w2 := by simpa using e2
      rw [hu2] at q
      exact (Option.some.inj q).symm
    have e3 : w3 = u3 := by
      have q : its3[i]? = some w3 := by simpa using e3
      rw [hu3] at q
      exact (Option.some.inj q).symm
    subst e1 e2 e3
    obtain ⟨q1, q2, q3, ⟨q4, _⟩, ⟨q5, _⟩, ⟨q6, _⟩⟩ := st'
    have hm : ∀ d, d ∈ [N + 5, N + 4, N, N + 1, N + 2] → d ∈ [N + 5, N + 3, N + 4, N, N + 1, N + 2] := fun d hd => by
      have e' : d = N + 5 ∨ d = N + 4 ∨ d = N ∨ d = N + 1 ∨ d = N + 2 := by simpa using hd
      rcases e' with z | z | z | z | z <;> rw [z] <;> simp
    have new : ObjOk X.prog X.w (upd H T (.tup [x, y, z])) h' T (.tup [x, y, z]) := ⟨by show 3 ≤ sizeLine; decide, [w1, w2, w3], .cons ru (.cons ru2 (.cons ru3 .nil)), hTup⟩
    have I1 : Inv X pins σ (upd H T (.tup [x, y, z])) { s with heap := h', toks := tk } := I.turnedNew (t' := tk) (ch := [N + 5, N + 4, N, N + 1, N + 2]) (fun b o hb q => hk b o hb q) (fun b hb => hf b (hm b hb)) hT new
    refine ⟨.ref T, _, I1, ev ▸ rfl, ⟨T, x, y, z, rfl, I.hok.fresh hT, rfl, fun l hl => by rw [I.tuple_inj hl hqx]; exact hx, fun l hl => by rw [I.tuple_inj hl hqy]; exact hy, fun l hl => by rw [I.tuple_inj hl hqz]; exact hz0⟩, ⟨q1, q2, q3, q4, q5, q6⟩, fun d hd => ?_⟩
    have hlt : d < s.heap.objs.size := by
      have e' : d = N + 5 ∨ d = N + 3 ∨ d = N + 4 ∨ d = N ∨ d = N + 1 ∨ d = N + 2 := by simpa using hd
      obtain ⟨_, _, _, hTO⟩ := hTO
      rcases e' with q | q | q | q | q | q
      · rw [q]; exact Heap.lt_size hz
      · rw [q]; exact Heap.lt_size hTI
      · rw [q]; exact Heap.lt_size hTO
      · rw [q]; obtain ⟨_, e1, _⟩ := h1; exact Heap.lt_size e1
      · rw [q]; obtain ⟨_, e1, _⟩ := h2; exact Heap.lt_size e1
      · rw [q]; obtain ⟨_, e1, _⟩ := h3; exact Heap.lt_size e1
    rw [upd_ne (Nat.ne_of_lt (Nat.lt_of_lt_of_le hlt hT))]
    exact (hf d hd).1
  done := by
    intro X hP hw hK hcm i pins s σ H E I hf st hg
    subst hP hw hK
    obtain ⟨xs, ys, zs, hqx, hqy, hqz, lx, ly, lz⟩ := hg
    obtain ⟨its, rv, p, _⟩ := I.tuple hqx
    obtain ⟨its2, rv2, p2, _⟩ := I.tuple hqy
    obtain ⟨its3, rv3, p3, _⟩ := I.tuple hqz
    obtain ⟨hz, hTI, hTO, h1, h2, h3⟩ := st
    have hh : X.A.in1.handled = none := I.ok.hd hcm
    have S := zip_sep3 (N := N) (fp1 := [a]) (fp2 := [b]) (fp3 := [c]) (by simpa using ha) (by simpa using hb) (by simpa using hc)
    have D1 := Draws.tuple (prog := X.prog) (w := X.w) hh N a (Nat.ne_of_lt ha) its.toArray
    have D2 := Draws.tuple (prog := X.prog) (w := X.w) hh (N + 1) b (Nat.ne_of_lt (Nat.lt_succ_of_lt hb)) its2.toArray
    have D3 := Draws.tuple (prog := X.prog) (w := X.w) hh (N + 2) c (Nat.ne_of_lt (Nat.lt_succ_of_lt (Nat.lt_succ_of_lt hc))) its3.toArray
    have W := GoesN.zip3 (elts := elts) (x1 := kk) (pos := tpos) S D1 D2 D3
    have ei : i = min (min its.toArray.size its2.toArray.size) its3.toArray.size := by
      have l1 := rv.length
      have l2 := rv2.length
      have l3 := rv3.length
      simp only [List.size_toArray]
      omega
    have hm : ∀ d, d ∈ [N + 5, N + 4, N, N + 1, N + 2] → d ∈ [N + 5, N + 3, N + 4, N, N + 1, N + 2] := fun d hd => by
      have e' : d = N + 5 ∨ d = N + 4 ∨ d = N ∨ d = N + 1 ∨ d = N + 2 := by simpa using hd
      rcases e' with z | z | z | z | z <;> rw [z] <;> simp
    rw [ei] at h1 h2 h3
    exact W.stops s (fun s1 => Inv X pins σ H s1) E ⟨hz, hTI, hTO, ⟨h1, p⟩, ⟨h2, p2⟩, ⟨h3, p3⟩⟩ fun h' tk hk _ => I.turnedL (t' := tk) (ch := [N + 5, N + 4, N, N + 1, N + 2]) (fun b o hb q => hk b o hb q) (fun b hb => hf b (hm b hb))
  self := fun A i s Q E st h => wpAny_pyIter_zip st.1 h
def iZip3 (K : PySem.W.Frag) (ta : TA) : TI := fun σ H R => ta σ H fun vs H1 => ∃ a b c xs ys zs, vs = [.ref a, .ref b, .ref c] ∧ SqT K H1 a xs ∧ SqT K H1 b ys ∧ SqT K H1 c zs ∧ R (ItzT3 K a b c) H1
theorem pi_zip3 {X : Cx} {e e2 e3 : Expr} {ta : TA} {p pos tpos : Pos} {elts : List Expr} {kk : Nat} (hg : Gl X "zip") (hm : X.mg "zip" = none) (ha : PA X [e, e2, e3] ta)
    (hs : starEach [e, e2, e3] X.env = (false, eval e X.env) :: starEach [e2, e3] X.env := by rfl) (hpl : (backTo pos (starEach [e2, e3] X.env)).any (·.1) = false := by rfl) :
    PI X (.Tuple elts kk tpos) (.Call (.Name "zip" p) [e, e2, e3] [] pos) (iZip3 X.K ta) := by
  refine ⟨fun pins s σ H R I h => ?_⟩
  refine Call_ (ld_blt I hg hm PyProof.Rows.boot_zip (PyProof.Rows.callWith_type1 (thn (ha.run pos pins s σ H _ I h) fun us s1 ⟨vs, H1, I1, r1, q1⟩ => ?_) hs hpl))
  obtain ⟨a, b, c, xs, ys, zs, ex, hqx, hqy, hqz, q⟩ := q1
  subst ex
  cases r1 with
  | cons r rr =>
    cases rr with
    | cons r' rr =>
      cases rr with
      | cons r'' rr =>
        cases rr
        cases r
        cases r'
        cases r''
        have fresh : ∀ d, d ∈ [s1.heap.objs.size + 5, s1.heap.objs.size + 3, s1.heap.objs.size + 4, s1.heap.objs.size, s1.heap.objs.size + 1, s1.heap.objs.size + 2] → FpOk X pins H1 d := fun d hd => by
          have hle : s1.heap.objs.size ≤ d := by
            have e' : d = s1.heap.objs.size + 5 ∨ d = s1.heap.objs.size + 3 ∨ d = s1.heap.objs.size + 4 ∨ d = s1.heap.objs.size ∨ d = s1.heap.objs.size + 1 ∨ d = s1.heap.objs.size + 2 := by simpa using hd
            rcases e' with z | z | z | z | z | z
            · rw [z]; exact Nat.le_add_right _ _
            · rw [z]; exact Nat.le_add_right _ _
            · rw [z]; exact Nat.le_add_right _ _
            · rw [z]; exact Nat.le_refl _
            · rw [z]; exact Nat.le_add_right _ _
            · rw [z]; exact Nat.le_add_right _ _
          exact I1.fpOk hle (I1.hok.fresh hle)
        obtain ⟨its, rv, p1, _⟩ := I1.tuple hqx
        obtain ⟨its2, rv2, p2, _⟩ := I1.tuple hqy
        obtain ⟨its3, rv3, p3, _⟩ := I1.tuple hqz
        obtain ⟨o1, ho1, _⟩ := id p1
        obtain ⟨o2, ho2, _⟩ := id p2
        obtain ⟨o3, ho3, _⟩ := id p3
        refine zip_begins3 (begins_tuple a its.toArray) (begins_tuple b its2.toArray) (begins_tuple c its3.toArray) p1 p2 p3 fun h' hz hTI hTO g1 g2 g3 hsz hk => wpAny_pyIter_zip hz ?_
        have I2 : Inv X pins σ H1 { s1 with heap := h' } := I1.kept (t' := s1.toks) hk
        exact ⟨_, [s1.heap.objs.size + 5, s1.heap.objs.size + 3, s1.heap.objs.size + 4, s1.heap.objs.size, s1.heap.objs.size + 1, s1.heap.objs.size + 2], _, _, H1, rfl, I2, turn_zip3 (Heap.lt_size ho1) (Heap.lt_size ho2) (Heap.lt_size ho3), ⟨hz, hTI, ⟨_, _, _, hTO⟩, ⟨_, g1, rfl, rfl⟩, ⟨_, g2, rfl, rfl⟩, ⟨_, g3, rfl, rfl⟩⟩, fresh, q⟩
end PL

namespace PL
open PySem PySem.Spec PyProof.Rows L2 FR
variable [Nm]

section
variable {K : PySem.W.Frag} {ρ ρ1 ρ2 : Rho} {I J L N : Asn} {ta tb tc te : TE} {d e : Dat} {t u : TT} {b c : Bool} {ts us : TS} {k : Out} {tr : TA} {q : Addr} {ds : List PyData} {x y : PyData}
theorem e_post {J' : Asn} (h : ∀ G H, J.ok G H → J'.ok G H) (hs : E K te ρ I d J) : E K te ρ I d J' := fun G H σ gh en io Q q => hs G H σ gh en io Q fun v G2 H2 a b j => q v G2 H2 a b (h G2 H2 j)
theorem e_pre {I' : Asn} (h : ∀ G H, I.ok G H → I'.ok G H) (hs : E K te ρ I' d J) : E K te ρ I d J := fun G H σ gh en io Q q => hs G H σ gh en (h G H io) Q q
/-! ### targets -/
def GJ (K : PySem.W.Frag) (g : TG) (x : PyData) (ρ ρ' : Rho) : Prop := ∀ G H σ v (Q : L2.St → Hp → Prop), Same G H → EnvD K G σ ρ → Dp K G v x → (∀ σ', EnvD K G σ' ρ' → Q σ' H) → g v σ H Q
def GJs (K : PySem.W.Frag) (g : TGs) (xs : List PyData) (ρ ρ' : Rho) : Prop := ∀ G H σ vs (Q : L2.St → Hp → Prop), Same G H → EnvD K G σ ρ → DpAll K G vs xs → (∀ σ', EnvD K G σ' ρ' → Q σ' H) → g vs σ H Q
theorem g_name {i : Nat} : GJ K (gName i) x ρ (ρ.set i (some (.d x))) := fun G H σ v Q gh en dv q => q _ (env_set (d := .d x) dv en)
theorem g_tup {g : TGs} {n : Nat} (hn : ds.length = n) (h : GJs K g ds ρ ρ1) : GJ K (gTup K n g) (.tuple ds) ρ ρ1 := fun G H σ v Q gh en dv q => by
  cases dv with
  | tup s r => exact ⟨_, _, rfl, same_t gh s, by rw [dpa_len r, hn], h G H σ _ Q gh en r q⟩
theorem g_nil : GJs K gNil [] ρ ρ := fun G H σ vs Q gh en dv q => by
  cases dv
  exact ⟨rfl, q σ en⟩
theorem g_cons {g : TG} {gs : TGs} (h : GJ K g x ρ ρ1) (hs : GJs K gs ds ρ1 ρ2) : GJs K (gCons g gs) (x :: ds) ρ ρ2 := fun G H σ vs Q gh en dv q => by
  cases dv with
  | cons a b => exact ⟨_, _, rfl, h G H σ _ _ gh en a fun σ' en' => hs G H σ' _ Q gh en' b q⟩
theorem s_asgG {g : TG} (h : E K te ρ I (.d x) J) (hg : GJ K g x ρ ρ1) : S K (tAsg te g) ρ I (.nx ρ1 J) := fun G H σ D gh en io f => h G H σ gh en io _ fun v G1 H1 g1 gh1 j1 dv => hg G1 H1 σ v _ gh1 (env_mono g1 en) dv fun σ' en' => f G1 H1 σ' g1 gh1 en' j1
/-! ### for, with any target, that may be left by a return in turn m -/
def Out.isRt (k : Out) : Prop := ∃ d J, k = .rt d J
/-- the turns: turn i goes on for i < m; m is the end, or turn m returns -/
structure Turns (K : PySem.W.Frag) (g : TG) (ts : TS) (xs : Nat → Option PyData) (n : Nat) (P : Nat → Rho) (V : Nat → Asn) (m : Nat) (k : Out) : Prop where
  le : m ≤ n
  go : ∀ i x, i < m → xs i = some x → ∃ ρ', GJ K g x (P i) ρ' ∧ S K ts ρ' (V i) (.nx (P (i + 1)) (V (i + 1)))
  fin : (m = n ∧ k = .nx (P n) (V n)) ∨ (m < n ∧ k.isRt ∧ ∀ x, xs m = some x → ∃ ρ', GJ K g x (P m) ρ' ∧ S K ts ρ' (V m) k)
theorem Turns.all {g : TG} {xs : Nat → Option PyData} {n : Nat} {P : Nat → Rho} {V : Nat → Asn} (go : ∀ i x, i < n → xs i = some x → ∃ ρ', GJ K g x (P i) ρ' ∧ S K ts ρ' (V i) (.nx (P (i + 1)) (V (i + 1)))) : Turns K g ts xs n P V n (.nx (P n) (V n)) := ⟨Nat.le_refl _, go, .inl ⟨rfl, rfl⟩⟩
/-- one turn, at the item v (data x): what the loop's rules ask -/
theorem Turns.turn {g : TG} {xs : Nat → Option PyData} {n : Nat} {P : Nat → Rho} {V : Nat → Asn} {m : Nat} (T : Turns K g ts xs n P V m k) {D : Ends} {G0 G' H : Hp} {σ : L2.St} {i : Nat} {v : L2.V} (f : Fin K D G0 k) (hi : i < n) (him : i ≤ m) (hx : xs i = some x) (a1 : Same G0 G') (a2 : Same G' H) (en : EnvD K G' σ (P i)) (vo : (V i).ok G' H) (dv : Dp K G' v x) :
    ∃ N : L2.St → Hp → Prop, (∀ σ' H', N σ' H' → i < m ∧ ∃ G2, Same G0 G2 ∧ Same G2 H' ∧ EnvD K G2 σ' (P (i + 1)) ∧ (V (i + 1)).ok G2 H') ∧ g v σ H fun σ2 H2 => ts { D with nx := N, ct := N, bk := D.nx } σ2 H2 := by
  by_cases c : i < m
  · obtain ⟨ρ', hg, hs⟩ := T.go i x c hx
    refine ⟨fun σ' H' => i < m ∧ ∃ G2, Same G0 G2 ∧ Same G2 H' ∧ EnvD K G2 σ' (P (i + 1)) ∧ (V (i + 1)).ok G2 H', fun _ _ z => z, ?_⟩
    exact hg G' H σ v _ a2 en dv fun σ' en' => hs G' H σ' _ a2 en' vo fun G2 H2 σ2 g2 gh2 en2 j2 => ⟨c, G2, a1.trans g2, gh2, en2, j2⟩
  · obtain rfl : i = m := by omega
    rcases T.fin with ⟨e, _⟩ | ⟨_, hk, ht⟩
    · omega
    · obtain ⟨ρ', hg, hs⟩ := ht x hx
      obtain ⟨d, J, rfl⟩ := hk
      refine ⟨fun _ _ => False, fun _ _ z => z.elim, ?_⟩
      exact hg G' H σ v _ a2 en dv fun σ' en' => hs G' H σ' _ a2 en' vo (f.mono a1 : Fin K D G' (.rt d J))
theorem s_forTG {tl : TE} {g : TG} {P : Nat → Rho} {V : Nat → Asn} {m : Nat} (hl : E K tl ρ I (.t ds) (V 0)) (h0 : ρ = P 0) (T : Turns K g ts (fun i => ds[i]?) ds.length P V m k) : S K (tFor (iTup K tl) g ts) ρ I k := fun G H σ D gh en io f => by
  refine hl G H σ gh en io _ fun v G1 H1 g1 gh1 j1 dv => ?_
  cases dv with
  | tup s r =>
    rename_i a xs
    subst h0
    have lx := dpa_len r
    refine ⟨a, rfl, ⟨_, same_t gh1 s⟩, fun i mm σ' H' => mm = ds.length - i ∧ i ≤ m ∧ ∃ G', Same G1 G' ∧ Same G' H' ∧ EnvD K G' σ' (P i) ∧ (V i).ok G' H', ⟨ds.length, rfl, Nat.zero_le _, G1, Same.refl _, gh1, env_mono g1 en, j1⟩, fun i mm σ' H' hw => ?_⟩
    obtain ⟨rfl, him, G', a1, a2, a3, a4⟩ := hw
    have hm := T.le
    by_cases hi : i < ds.length
    · have hix : i < xs.length := by omega
      obtain ⟨w, h1, h2⟩ := dpa_get r (List.getElem?_eq_getElem hi)
      have sq := same_t (a1.trans a2) s
      obtain ⟨N, hN, hg⟩ := T.turn (v := w) (f.mono g1) hi him (List.getElem?_eq_getElem hi) a1 a2 a3 a4 (dp_mono a1 _ _ h2)
      refine .inr ⟨⟨xs, w, sq, h1⟩, N, fun σ2 H2 z => ?_, fun x H2 y => ?_⟩
      · obtain ⟨c, w2⟩ := hN σ2 H2 z
        exact ⟨ds.length - (i + 1), by omega, rfl, c, w2⟩
      · obtain ⟨rfl, y2⟩ := y
        have ex : x = w := Option.some.inj ((y2 xs sq).symm.trans h1)
        rw [ex]
        exact hg
    · have e : i = ds.length := by omega
      subst e
      rcases T.fin with ⟨e, rfl⟩ | ⟨lt, _⟩
      · exact .inl ⟨⟨xs, same_t (a1.trans a2) s, by omega⟩, f G' H' σ' (g1.trans a1) a2 a3 a4⟩
      · omega
theorem s_forLG {tl : TE} {g : TG} {P : Nat → Rho} {V : Nat → Asn} {m : Nat} (hl : E K tl ρ I (.d (.list ds)) (V 0)) (h0 : ρ = P 0) (T : Turns K g ts (fun i => ds[i]?) ds.length P V m k) : S K (tFor (iList K tl) g ts) ρ I k := fun G H σ D gh en io f => by
  refine hl G H σ gh en io _ fun v G1 H1 g1 gh1 j1 dv => ?_
  cases dv with
  | lst s r =>
    rename_i a xs
    subst h0
    have lx := dpa_len r
    refine ⟨a, rfl, ⟨_, gh1.seq s⟩, fun i mm σ' H' => mm = ds.length - i ∧ i ≤ m ∧ ∃ G', Same G1 G' ∧ Same G' H' ∧ EnvD K G' σ' (P i) ∧ (V i).ok G' H', ⟨ds.length, rfl, Nat.zero_le _, G1, Same.refl _, gh1, env_mono g1 en, j1⟩, fun i mm σ' H' hw => ?_⟩
    obtain ⟨rfl, him, G', a1, a2, a3, a4⟩ := hw
    have hm := T.le
    by_cases hi : i < ds.length
    · have hix : i < xs.length := by omega
      obtain ⟨w, h1, h2⟩ := dpa_get r (List.getElem?_eq_getElem hi)
      have sq := (a1.trans a2).seq s
      obtain ⟨N, hN, hg⟩ := T.turn (v := w) (f.mono g1) hi him (List.getElem?_eq_getElem hi) a1 a2 a3 a4 (dp_mono a1 _ _ h2)
      refine .inr ⟨⟨xs, w, sq, h1⟩, N, fun σ2 H2 z => ?_, fun x H2 y => ?_⟩
      · obtain ⟨c, w2⟩ := hN σ2 H2 z
        exact ⟨ds.length - (i + 1), by omega, rfl, c, w2⟩
      · obtain ⟨rfl, y2⟩ := y
        have ex : x = w := Option.some.inj ((y2 xs sq).symm.trans h1)
        rw [ex]
        exact hg
    · have e : i = ds.length := by omega
      subst e
      rcases T.fin with ⟨e, rfl⟩ | ⟨lt, _⟩
      · exact .inl ⟨⟨xs, (a1.trans a2).seq s, by omega⟩, f G' H' σ' (g1.trans a1) a2 a3 a4⟩
      · omega
/-- the i-th items of three rows -/
def zip3 (xs ys zs : List PyData) (i : Nat) : Option PyData := match xs[i]?, ys[i]?, zs[i]? with
  | some x, some y, some z => some (.tuple [x, y, z])
  | _, _, _ => none
theorem s_forZ3 {g : TG} {xs ys zs : List PyData} {P : Nat → Rho} {V : Nat → Asn} {m n : Nat} (hl : A K tr ρ I [.t xs, .t ys, .t zs] (V 0)) (hx : xs.length = n) (hy : ys.length = n) (hz : zs.length = n) (h0 : ρ = P 0) (T : Turns K g ts (zip3 xs ys zs) n P V m k) : S K (tFor (iZip3 K tr) g ts) ρ I k := fun G H σ D gh en io f => by
  refine hl G H σ gh en io _ fun vs G1 H1 g1 gh1 j1 dvs => ?_
  match vs, dvs with
  | [v1, v2, v3], ⟨d1, d2, d3, _⟩ =>
    cases d1 with
    | tup s1 r1 =>
      cases d2 with
      | tup s2 r2 =>
        cases d3 with
        | tup s3 r3 =>
          rename_i a1 us1 a2 us2 a3 us3
          subst h0
          have l1 := dpa_len r1
          have l2 := dpa_len r2
          have l3 := dpa_len r3
          refine ⟨a1, a2, a3, us1, us2, us3, rfl, same_t gh1 s1, same_t gh1 s2, same_t gh1 s3, fun i mm σ' H' => mm = n - i ∧ i ≤ m ∧ ∃ G', Same G1 G' ∧ Same G' H' ∧ EnvD K G' σ' (P i) ∧ (V i).ok G' H', ⟨n, rfl, Nat.zero_le _, G1, Same.refl _, gh1, env_mono g1 en, j1⟩, fun i mm σ' H' hw => ?_⟩
          obtain ⟨rfl, him, G', b1, b2, b3, b4⟩ := hw
          have hm := T.le
          have q1 := same_t (b1.trans b2) s1
          have q2 := same_t (b1.trans b2) s2
          have q3 := same_t (b1.trans b2) s3
          by_cases hi : i < n
          · have e1 := List.getElem?_eq_getElem (l := xs) (i := i) (by omega)
            have e2 := List.getElem?_eq_getElem (l := ys) (i := i) (by omega)
            have e3 := List.getElem?_eq_getElem (l := zs) (i := i) (by omega)
            obtain ⟨w1, h1, p1⟩ := dpa_get r1 e1
            obtain ⟨w2, h2, p2⟩ := dpa_get r2 e2
            obtain ⟨w3, h3, p3⟩ := dpa_get r3 e3
            have hzip : zip3 xs ys zs i = some (.tuple [xs[i], ys[i], zs[i]]) := by
              unfold zip3
              rw [e1, e2, e3]
            -- the new tuple may stand anywhere that is free
            by_cases c : i < m
            · obtain ⟨ρ', hg, hs⟩ := T.go i _ c hzip
              refine .inr ⟨⟨us1, us2, us3, w1, w2, w3, q1, q2, q3, h1, h2, h3⟩, fun σ2 H2 => i < m ∧ ∃ G2, Same G1 G2 ∧ Same G2 H2 ∧ EnvD K G2 σ2 (P (i + 1)) ∧ (V (i + 1)).ok G2 H2, fun σ2 H2 z => ⟨n - (i + 1), by omega, rfl, z⟩, fun x H2 y => ?_⟩
              obtain ⟨Tp, x1, x2, x3, rfl, nT, rfl, f1, f2, f3⟩ := y
              obtain rfl : x1 = w1 := Option.some.inj ((f1 us1 q1).symm.trans h1)
              obtain rfl : x2 = w2 := Option.some.inj ((f2 us2 q2).symm.trans h2)
              obtain rfl : x3 = w3 := Option.some.inj ((f3 us3 q3).symm.trans h3)
              have st := Stp.new (o := .tup [x1, x2, x3]) b2 nT
              have c1 := b1.trans st.gg
              exact hg _ _ σ' _ _ st.gh (env_mono st.gg b3) (.tup (.inl (.inl upd_same)) (.cons (dp_mono c1 _ _ p1) (.cons (dp_mono c1 _ _ p2) (.cons (dp_mono c1 _ _ p3) .nil)))) fun σ2 en2 => hs _ _ σ2 _ st.gh en2 (Asn.pure_st st b4) fun G2 H2 σ3 g2 gh2 en3 j3 => ⟨c, G2, c1.trans g2, gh2, en3, j3⟩
            · obtain rfl : i = m := by omega
              rcases T.fin with ⟨e, _⟩ | ⟨_, hk, ht⟩
              · omega
              · obtain ⟨ρ', hg, hs⟩ := ht _ hzip
                obtain ⟨d, J, rfl⟩ := hk
                refine .inr ⟨⟨us1, us2, us3, w1, w2, w3, q1, q2, q3, h1, h2, h3⟩, fun _ _ => False, fun _ _ z => z.elim, fun x H2 y => ?_⟩
                obtain ⟨Tp, x1, x2, x3, rfl, nT, rfl, f1, f2, f3⟩ := y
                obtain rfl : x1 = w1 := Option.some.inj ((f1 us1 q1).symm.trans h1)
                obtain rfl : x2 = w2 := Option.some.inj ((f2 us2 q2).symm.trans h2)
                obtain rfl : x3 = w3 := Option.some.inj ((f3 us3 q3).symm.trans h3)
                have st := Stp.new (o := .tup [x1, x2, x3]) b2 nT
                have c1 := b1.trans st.gg
                exact hg _ _ σ' _ _ st.gh (env_mono st.gg b3) (.tup (.inl (.inl upd_same)) (.cons (dp_mono c1 _ _ p1) (.cons (dp_mono c1 _ _ p2) (.cons (dp_mono c1 _ _ p3) .nil)))) fun σ2 en2 => hs _ _ σ2 _ st.gh en2 (Asn.pure_st st b4) ((f.mono g1).mono c1 : Fin K D _ (.rt d J))
          · have e : i = n := by omega
            subst e
            rcases T.fin with ⟨e, rfl⟩ | ⟨lt, _⟩
            · exact .inl ⟨⟨us1, us2, us3, q1, q2, q3, by omega, by omega, by omega⟩, f G' H' σ' (g1.trans b1) b2 b3 b4⟩
            · omega
/-! ### new lists -/
theorem e_lstL {ds : List Dat} {xs : List PyData} (hr : A K tr ρ I ds J) (hd : Ds ds xs) (hl : xs.length ≤ 100000) : E K (tLst tr) ρ I (.l xs) J :=
  fun G H σ gh en io Q q => hr G H σ gh en io _ fun vs G1 H1 g1 gh1 j1 dxs => by
    have r : DpAll K G1 vs xs := dva_dp (by rw [← hd.map]; exact dxs)
    refine ⟨by rw [dpa_len r]; exact sz_of hl, fun p hp => ?_⟩
    have s := Stp.new (o := .lst vs) gh1 hp
    exact q _ _ _ (g1.trans s.gg) s.gh (Asn.pure_st s j1) ⟨p, vs, rfl, upd_same, dp_monos s.gg xs vs r⟩
theorem e_l2d (h : E K te ρ I (.l ds) J) : E K te ρ I (.d (.list ds)) J := fun G H σ gh en io Q q => h G H σ gh en io Q fun v G1 H1 g1 gh1 j1 ⟨a, vs, ev, ha, r⟩ => q v G1 H1 g1 gh1 j1 (by rw [ev]; exact .lst (.inl (.inl ha)) r)
theorem cut_to {α : Type} {xs : List V} {j : Nat} : cutV xs none (some (j : Nat)) = xs.take j := by
  unfold cutV
  rw [HT.sIx_none, HT.sIx_nat, List.drop_zero, Nat.sub_zero]
  by_cases h : j ≤ xs.length
  · rw [Nat.min_eq_left h]
  · rw [Nat.min_eq_right (by omega), List.take_of_length_le (Nat.le_refl _), List.take_of_length_le (by omega)]
theorem cut_from {xs : List V} {j : Nat} : cutV xs (some (j : Nat)) none = xs.drop j := by
  unfold cutV
  rw [HT.sIx_none, HT.sIx_nat]
  by_cases h : j ≤ xs.length
  · rw [Nat.min_eq_left h, List.take_of_length_le (by rw [List.length_drop]; omega)]
  · rw [Nat.min_eq_right (by omega), List.drop_of_length_le (Nat.le_refl _), List.drop_of_length_le (by omega), List.take_nil]
theorem dpa_take {G : Hp} : ∀ {vs : List V} {ds : List PyData} (n : Nat), DpAll K G vs ds → DpAll K G (vs.take n) (ds.take n)
  | _, _, 0, _ => .nil
  | _, _, _ + 1, .nil => .nil
  | _, _, n + 1, .cons a b => .cons a (dpa_take n b)
theorem dpa_drop {G : Hp} : ∀ {vs : List V} {ds : List PyData} (n : Nat), DpAll K G vs ds → DpAll K G (vs.drop n) (ds.drop n)
  | _, _, 0, h => h
  | _, _, _ + 1, .nil => .nil
  | _, _, n + 1, .cons _ b => dpa_drop n b
theorem e_sliceTo {j : Nat} (ha : E K ta ρ I (.d (.list ds)) I) (hb : E K tb ρ I (.i (j : Nat)) I) : E K (tSl (rSlL K) ta tNoPart (tPart tb)) ρ I (.l (ds.take j)) I := fun G H σ gh en io Q q =>
  ha G H σ gh en io _ fun v G1 H1 g1 gh1 j1 dv => hb G1 H1 σ gh1 (env_mono g1 en) j1 _ fun w G2 H2 g2 gh2 j2 dw => by
    obtain rfl := dv_int dw
    cases dv with
    | lst s r =>
      rename_i a xs
      refine ⟨_, rfl, a, xs, rfl, (g2.trans gh2).seq s, fun p hp => ?_⟩
      rw [cut_to (α := V)]
      have st := Stp.new (o := .lst (xs.take j)) gh2 hp
      exact q _ _ _ ((g1.trans g2).trans st.gg) st.gh (Asn.pure_st st j2) ⟨p, _, rfl, upd_same, dpa_take j (dp_monos (g2.trans st.gg) ds xs r)⟩
theorem e_sliceFrom {j : Nat} (ha : E K ta ρ I (.d (.list ds)) I) (hb : E K tb ρ I (.i (j : Nat)) I) : E K (tSl (rSlL K) ta (tPart tb) tNoPart) ρ I (.l (ds.drop j)) I := fun G H σ gh en io Q q =>
  ha G H σ gh en io _ fun v G1 H1 g1 gh1 j1 dv => hb G1 H1 σ gh1 (env_mono g1 en) j1 _ fun w G2 H2 g2 gh2 j2 dw => by
    obtain rfl := dv_int dw
    cases dv with
    | lst s r =>
      rename_i a xs
      refine ⟨_, rfl, a, xs, rfl, (g2.trans gh2).seq s, fun p hp => ?_⟩
      rw [cut_from]
      have st := Stp.new (o := .lst (xs.drop j)) gh2 hp
      exact q _ _ _ ((g1.trans g2).trans st.gg) st.gh (Asn.pure_st st j2) ⟨p, _, rfl, upd_same, dpa_drop j (dp_monos (g2.trans st.gg) ds xs r)⟩
theorem e_cat {es : List PyData} (ha : E K ta ρ I (.l ds) J) (hb : E K tb ρ J (.l es) L) (hl : ds.length + es.length ≤ 100000) : E K (tOp rCat ta tb) ρ I (.l (ds ++ es)) L :=
  e_op ha hb fun G H a b gh lo ⟨p, vs, e1, h1, r1⟩ ⟨q', ws, e2, h2, r2⟩ Q q => by
    subst e1 e2
    refine ⟨p, q', vs, ws, rfl, rfl, gh _ _ h1, gh _ _ h2, by rw [dpa_len r1, dpa_len r2]; exact sz_of hl, fun l hp => ?_⟩
    have st := Stp.new (o := .lst (vs ++ ws)) gh hp
    exact q _ _ _ st.gg st.gh (Asn.pure_st st lo) ⟨l, _, rfl, upd_same, dpa_app (dp_monos st.gg ds vs r1) (dp_monos st.gg es ws r2)⟩
/-! ### [x for x in xs if t] -/
def keepL (ds : List PyData) (bs : List Bool) : List PyData := ((ds.zip bs).filter (·.2)).map (·.1)
theorem keepL_snoc {ds : List PyData} {bs : List Bool} {i : Nat} {x : PyData} {b : Bool} (hx : ds[i]? = some x) (hb : bs[i]? = some b) : keepL (ds.take (i + 1)) (bs.take (i + 1)) = keepL (ds.take i) (bs.take i) ++ (if b = true then [x] else []) := by
  have h1 := (List.getElem?_eq_some_iff.mp hx).1
  have h2 := (List.getElem?_eq_some_iff.mp hb).1
  unfold keepL
  rw [List.take_add_one, List.take_add_one, hx, hb, List.zip_append (by rw [List.length_take, List.length_take]; omega), List.filter_append, List.map_append]
  cases b <;> rfl
theorem keepL_fr (g : F → Bool) : ∀ fs : List F, keepL (fs.map fr) (fs.map g) = (fs.filter g).map fr
  | [] => rfl
  | a :: fs => by
    have ih := keepL_fr g fs
    unfold keepL at ih ⊢
    rw [List.map_cons, List.map_cons, List.zip_cons_cons, List.filter_cons, List.filter_cons]
    cases g a with
    | true => rw [if_pos rfl, if_pos rfl, List.map_cons, List.map_cons, ih]
    | false => rw [if_neg (show ¬ (false = true) from Bool.false_ne_true), if_neg (show ¬ (false = true) from Bool.false_ne_true), ih]
theorem keepL_le (ds : List PyData) (bs : List Bool) : (keepL ds bs).length ≤ ds.length := by
  unfold keepL
  rw [List.length_map]
  refine Nat.le_trans (List.length_filter_le _ _) ?_
  rw [List.length_zip]
  exact Nat.min_le_left _ _
theorem e_lcK {tl : TE} {tt : TT} {bs : List Bool} {j : Nat} (hl : E K tl ρ I (.d (.list ds)) I) (hn : bs.length = ds.length) (hz : ds.length ≤ 100000) (hj : j < ρ.length)
    (ht : ∀ (i : Nat) x b, ds[i]? = some x → bs[i]? = some b → ∀ I, T K tt ((ρ.set j none).set j (some (.d x))) I b I) : E K (tLc (iList K tl) (gName j) tt (tVar j) [j]) ρ I (.d (.list (keepL ds bs))) I := fun G H σ gh en io Q q =>
  hl G H σ gh en io _ fun v G1 H1 g1 gh1 j1 dv => by
    cases dv with
    | lst s r =>
      rename_i a xs
      refine ⟨a, rfl, ⟨_, gh1.seq s⟩, fun D hD => ?_⟩
      have gD : G1 D = none := gh1.free hD
      have lx := dpa_len r
      have nD : ∀ a, I.foot a → ¬ a = D := fun a fa z => by
        obtain ⟨o, ho⟩ := I.own G1 H1 a j1 fa
        rw [z, hD] at ho
        cases ho
      refine lc_list (xs := xs) (fun i H' => ∃ G', Same G1 G' ∧ Same G' H' ∧ I.ok G' H' ∧ (lA K D (keepL (ds.take i) (bs.take i))).ok G' H' ∧ Stp (· = D) G1 (upd H1 D (.lst [])) G' H') ?_ (fun i H' _ ⟨G', a1, a2, _⟩ => (a1.trans a2).seq s) (fun i x H' hx ⟨G', a1, a2, a3, a4, a5⟩ => ?_) (fun H' ⟨G', a1, a2, a3, a4, a5⟩ => ?_)
      · have st := Stp.newM (o := HO.lst []) gh1 hD
        exact ⟨G1, Same.refl _, st.gh, Asn.pure_st st j1, ⟨gD, [], upd_same, .nil⟩, Stp.refl st.gh⟩
      · have hi : i < xs.length := (List.getElem?_eq_some_iff.mp hx).1
        have hi2 : i < ds.length := by omega
        have hi3 : i < bs.length := by omega
        obtain ⟨w, h1, h2⟩ := dpa_get r (List.getElem?_eq_getElem hi2)
        rw [hx] at h1
        obtain rfl := Option.some.inj h1
        refine ⟨by simp [wipe], ?_⟩
        have en' : EnvD K G' ((σ.set j none).set j (some x)) ((ρ.set j none).set j (some (.d ds[i]))) := env_set (d := .d _) (dp_mono a1 _ _ h2) (env_none (env_mono (g1.trans a1) en))
        refine ht i _ _ (List.getElem?_eq_getElem hi2) (List.getElem?_eq_getElem hi3) (((lA K D (keepL (ds.take i) (bs.take i))).and I).and (Asn.since (· = D) G1 (upd H1 D (.lst [])))) G' H' _ a2 en' ⟨⟨a4, a3⟩, a5⟩ _ fun G2 H2 g2 gh2 j2 => ?_
        have eK := keepL_snoc (List.getElem?_eq_getElem hi2) (List.getElem?_eq_getElem hi3)
        obtain ⟨⟨⟨gq, vs, hq, r2⟩, i2⟩, st2⟩ := j2
        by_cases c : bs[i] = true
        · rw [if_pos c]
          refine ⟨x, ?_, vs, hq, ?_, ?_⟩
          · have e : (((σ.set j none).set j (some x)) : List (Option V))[j]? = some (some x) := by
              obtain ⟨v', h3, h4⟩ := env_get (i := j) (d := .d ds[i]) en' (by simp [hj])
              have hlen : j < ((σ.set j none).set j (some x)).length := (List.getElem?_eq_some_iff.mp h3).1
              rw [List.getElem?_set_self (by simpa using hlen)]
            exact e
          · rw [dpa_len r2]
            exact Nat.lt_of_le_of_lt (Nat.le_trans (keepL_le _ _) (by rw [List.length_take]; exact Nat.min_le_right _ _)) (Nat.lt_of_le_of_lt hz (by decide))
          · have st := Stp.store (o := HO.lst (vs ++ [x])) gh2 gq hq
            refine ⟨G2, a1.trans g2, st.gh, I.st _ _ _ _ _ nD st i2, ⟨gq, _, upd_same, ?_⟩, st2.trans st⟩
            rw [eK, if_pos c]
            exact dpa_app r2 (.cons (dp_mono (a1.trans g2) _ _ h2) .nil)
        · rw [if_neg c]
          refine ⟨G2, a1.trans g2, gh2, i2, ⟨gq, vs, hq, ?_⟩, st2⟩
          rw [eK, if_neg c, List.append_nil]
          exact r2
      · obtain ⟨gq, vs, hq, r2⟩ := a4
        have st : Stp (· = D) G' H' (upd G' D (.lst vs)) H' := Stp.frz a2 gq hq
        refine q _ (upd G' D (.lst vs)) H' ((g1.trans a1).trans st.gg) st.gh (I.st _ _ _ _ _ nD st a3) (.lst (.inl (.inl upd_same)) (dp_monos st.gg _ vs ?_))
        rw [show keepL ds bs = keepL (ds.take xs.length) (bs.take xs.length) by rw [List.take_of_length_le (by omega), List.take_of_length_le (by omega)]]
        exact r2
/-! ### lists that change by place -/
/-- x = [a, b, ..], to be changed -/
theorem s_newLA {i : Nat} {ds : List Dat} {xs : List PyData} (hr : A K tr ρ I ds J) (hd : Ds ds xs) (hl : xs.length ≤ 100000) (h : ∀ q, ¬ J.foot q → S K us (ρ.set i (some (.r q))) (lJ K q xs J) k) : S K (tSeq (tAsg (tLst tr) (gName i)) us) ρ I k := fun G H σ D gh en io f =>
  hr G H σ gh en io _ fun vs G1 H1 g1 gh1 j1 dxs => by
    have r : DpAll K G1 vs xs := dva_dp (by rw [← hd.map]; exact dxs)
    refine ⟨by rw [dpa_len r]; exact sz_of hl, fun p hp => ?_⟩
    have s := Stp.newM (o := HO.lst vs) gh1 hp
    have gp : G1 p = none := gh1.free hp
    refine h p (fun z => ?_) G1 _ _ D s.gh (env_set (d := .r p) rfl (env_mono g1 en)) ⟨⟨gp, vs, upd_same, r⟩, Asn.pure_st s j1⟩ (f.mono g1)
    obtain ⟨o, ho⟩ := J.own G1 H1 p j1 z
    rw [ho] at hp
    cases hp
theorem dpa_set {G : Hp} {v : V} (hv : Dp K G v x) : ∀ {vs : List V} {ds : List PyData} (n : Nat), DpAll K G vs ds → DpAll K G (vs.set n v) (ds.set n x)
  | _, _, _, .nil => .nil
  | _, _, 0, .cons _ b => .cons hv b
  | _, _, n + 1, .cons a b => .cons a (dpa_set hv n b)
/-- x[j] = e -/
theorem s_setL {i j : Nat} (he : E K te ρ I (.d x) (lJ K q ds J)) (hi : ρ[i]? = some (some (.r q))) (hb : E K tb ρ (lJ K q ds J) (.i (j : Nat)) (lJ K q ds J)) (hj : j < ds.length) (hf : ¬ J.foot q) :
    S K (tAsg te (gSub (tVar i) tb rSetL)) ρ I (.nx ρ (lJ K q (ds.set j x) J)) := fun G H σ D gh en io f => he G H σ gh en io _ fun v G1 H1 g1 gh1 j1 dv => by
  obtain ⟨w, hw, rfl⟩ := env_get (env_mono g1 en) hi
  refine ⟨.ref q, hw, hb G1 H1 σ gh1 (env_mono g1 en) j1 _ fun u G2 H2 g2 gh2 j2 du => ?_⟩
  obtain rfl := dv_int du
  obtain ⟨⟨gq, vs, hq, r⟩, jo⟩ := j2
  have lv := dpa_len r
  have s := Stp.store (o := HO.lst (vs.set j v)) gh2 gq hq
  refine ⟨q, vs, (j : Int), j, rfl, rfl, hq, ?_, ?_⟩
  · unfold ixN
    rw [if_pos (by omega), if_pos (by omega)]
    simp
  · exact f G2 _ σ (g1.trans g2) s.gh (env_mono (g1.trans g2) en) ⟨⟨gq, _, upd_same, dpa_set (dp_mono g2 _ _ dv) j r⟩, J.st _ _ _ _ _ (fun a fa (z : a = q) => hf (z ▸ fa)) s jo⟩
theorem dv_non {G : Hp} {v : V} (h : Dv K G v (.d .none)) : v = .non := by
  cases h
  rfl
/-- x is None, of data that is told -/
def isNon : PyData → Bool
  | .none => true
  | _ => false
theorem non_dec {G : Hp} {v : V} {x : PyData} (h : Dp K G v x) : decide (v = .non) = isNon x := by
  cases h <;> simp [isNon]
theorem e_isN (ha : E K ta ρ I (.d x) J) (hb : E K tb ρ J (.d .none) L) : E K (tOp (fun x y H Q => y = .non ∧ Q (.bl (decide (x = .non))) H) ta tb) ρ I (.b (isNon x)) L :=
  e_op ha hb fun G H a b gh lo dx dy Q q => ⟨dv_non dy, q _ G H (Same.refl _) gh lo (by rw [non_dec dx]; exact .bl _)⟩
theorem e_notN (ha : E K ta ρ I (.d x) J) (hb : E K tb ρ J (.d .none) L) : E K (tOp (fun x y H Q => y = .non ∧ Q (.bl (!decide (x = .non))) H) ta tb) ρ I (.b (!isNon x)) L :=
  e_op ha hb fun G H a b gh lo dx dy Q q => ⟨dv_non dy, q _ G H (Same.refl _) gh lo (by rw [non_dec dx]; exact .bl _)⟩
theorem s_asgE {g : TG} (h : E K te ρ I d L) (hL : ∀ G H, ¬ L.ok G H) : S K (tAsg te g) ρ I k := fun G H σ D gh en io f => h G H σ gh en io _ fun v G1 H1 g1 gh1 j1 dv => absurd j1 (hL G1 H1)
/-- a constant of the module -/
theorem e_glob {a : Addr} (h : ∀ G, Dp K G (.ref a) x) : E K (tC (.ref a)) ρ I (.d x) I := fun G H σ gh en io Q q => q _ G H (Same.refl _) gh io (h G)
theorem dp_const {a : Addr} {xs : List V} (h : ∀ G, SqT K G a xs) (hx : ∀ G, DpAll K G xs ds) : ∀ G, Dp K G (.ref a) (.tuple ds) := fun G => .tup (h G) (hx G)
theorem const_t {a : Addr} {o : Obj} {its : Array Value} {n : Nat} {xs : List V} (hk : K.lookup a = some o) (hc : o.cls = .type "tuple") (hd : o.data = .seq its n) (hz : its.size ≤ 100) (r : Vals xs its.toList) : ∀ G, SqT K G a xs := fun G => .inr ⟨o, its, n, hk, hc, hd, Nat.le_trans hz (by decide), r⟩
end
end PL

/-! Fractions as rational numbers. Plain Lean. -/
namespace FR
def vl (a : F) : Rat := (a.1 : Rat) / (a.2 : Rat)
theorem cpos {n : Int} (h : 0 < n) : (0 : Rat) < (n : Rat) := Rat.intCast_lt_intCast.mpr h
theorem div_eq {x y n d : Rat} (hy : y ≠ 0) (hd : d ≠ 0) (h : x * d = n * y) : x / y = n / d := by grind
theorem vl_nf {n d : Int} (h : 0 < d) : vl (nf n d) = (n : Rat) / (d : Rat) := by
  have p := cpos (nf_nrm (n := n) h).1
  have q := cpos h
  have z : (((nf n d).1 * d : Int) : Rat) = ((n * (nf n d).2 : Int) : Rat) := by rw [nf_mul1 h]
  rw [Rat.intCast_mul, Rat.intCast_mul] at z
  exact div_eq (by grind) (by grind) z
theorem vl_lf {n d : Int} (h : d ≠ 0) : vl (lf n d) = (n : Rat) / (d : Rat) := by
  unfold lf
  split
  · rw [vl_nf (by omega), Rat.intCast_sub, Rat.intCast_sub]
    have q : (d : Rat) ≠ 0 := fun z => h (Rat.intCast_inj.mp z)
    exact div_eq (by grind) q (by grind)
  · exact vl_nf (by omega)
theorem vl_plus {a b : F} (ha : Nrm a) (hb : Nrm b) : vl (plusM a b) = vl a + vl b := by
  rw [plus_eq ha hb, vl_nf (Int.mul_pos ha.1 hb.1), Rat.intCast_add, Rat.intCast_mul, Rat.intCast_mul, Rat.intCast_mul]
  have p := cpos ha.1
  have q := cpos hb.1
  unfold vl
  have p' : (a.2 : Rat) ≠ 0 := by grind
  have q' : (b.2 : Rat) ≠ 0 := by grind
  grind
theorem vl_minus {a b : F} (ha : Nrm a) (hb : Nrm b) : vl (minusM a b) = vl a - vl b := by
  rw [minus_eq ha hb, vl_nf (Int.mul_pos ha.1 hb.1), Rat.intCast_sub, Rat.intCast_mul, Rat.intCast_mul, Rat.intCast_mul]
  have p := cpos ha.1
  have q := cpos hb.1
  unfold vl
  have p' : (a.2 : Rat) ≠ 0 := by grind
  have q' : (b.2 : Rat) ≠ 0 := by grind
  grind
theorem vl_times {a b : F} (ha : Nrm a) (hb : Nrm b) : vl (timesM a b) = vl a * vl b := by
  rw [times_eq ha hb, vl_nf (Int.mul_pos ha.1 hb.1), Rat.intCast_mul, Rat.intCast_mul]
  have p := cpos ha.1
  have q := cpos hb.1
  unfold vl
  have p' : (a.2 : Rat) ≠ 0 := by grind
  have q' : (b.2 : Rat) ≠ 0 := by grind
  grind
theorem vl_inv {b : F} (hb : Nrm b) (h : b.1 ≠ 0) : vl (invM b) = 1 / vl b := by
  have q := cpos hb.1
  have q' : (b.2 : Rat) ≠ 0 := by grind
  have n' : (b.1 : Rat) ≠ 0 := fun z => h (Rat.intCast_inj.mp z)
  unfold vl invM
  split
  · show ((-b.2 : Int) : Rat) / ((-b.1 : Int) : Rat) = _
    rw [Rat.intCast_neg, Rat.intCast_neg]
    grind
  · show (b.2 : Rat) / (b.1 : Rat) = _
    grind
theorem vl_over {a b : F} (ha : Nrm a) (hb : Nrm b) (h : b.1 ≠ 0) : vl (overM a b) = vl a / vl b := by
  unfold overM
  rw [vl_times ha (inv_nrm hb h), vl_inv hb h]
  grind
theorem div_lt_div {a b c d : Rat} (hb : 0 < b) (hd : 0 < d) : a / b < c / d ↔ a * d < c * b := by
  rw [Rat.div_lt_iff hb]
  have e : c / d * b = c * b / d := by grind
  rw [e, Rat.lt_div_iff hd]
theorem vl_lt {a b : F} (ha : 0 < a.2) (hb : 0 < b.2) : vl a < vl b ↔ a.1 * b.2 < b.1 * a.2 := by
  unfold vl
  rw [div_lt_div (cpos ha) (cpos hb), ← Rat.intCast_mul, ← Rat.intCast_mul, Rat.intCast_lt_intCast]
theorem less_vl {a b : F} (ha : 0 < a.2) (hb : 0 < b.2) : less a b = decide (vl a < vl b) := by
  unfold less
  by_cases c : a.1 * b.2 < b.1 * a.2
  · rw [decide_eq_true c, decide_eq_true ((vl_lt ha hb).mpr c)]
  · rw [decide_eq_false c, decide_eq_false (fun z => c ((vl_lt ha hb).mp z))]
theorem vl_inj {a b : F} (ha : Nrm a) (hb : Nrm b) (h : vl a = vl b) : a = b := by
  have h1 := (vl_lt (a := a) (b := b) ha.1 hb.1)
  have h2 := (vl_lt (a := b) (b := a) hb.1 ha.1)
  refine nrm_one ha hb ?_
  have z1 : ¬ a.1 * b.2 < b.1 * a.2 := fun z => by have := h1.mpr z; grind
  have z2 : ¬ b.1 * a.2 < a.1 * b.2 := fun z => by have := h2.mpr z; grind
  omega
theorem vl_zero : vl (0, 1) = 0 := by unfold vl; grind
theorem vl_one : vl (1, 1) = 1 := by unfold vl; grind
theorem vl_pos {a : F} (ha : 0 < a.2) : 0 < vl a ↔ 0 < a.1 := by
  have := vl_lt (a := (0, 1)) (b := a) (by decide) ha
  rw [vl_zero] at this
  rw [this]
  show (0 * a.2 < a.1 * 1) ↔ _
  omega
theorem vl_neg {a : F} (ha : 0 < a.2) : vl a < 0 ↔ a.1 < 0 := by
  have := vl_lt (a := a) (b := (0, 1)) ha (by decide)
  rw [vl_zero] at this
  rw [this]
  show (a.1 * 1 < 0 * a.2) ↔ _
  omega
theorem nrm_zero : Nrm ((0, 1) : F) := ⟨by decide, by decide⟩
theorem nrm_unit : Nrm ((1, 1) : F) := ⟨by decide, by decide⟩
/-! ### the law's own sort -/
def ins (x : F) (out : List F) : List F :=
  let at_ := (out.filter fun y => less y x).length
  if at_ = out.length ∨ out[at_]? ≠ some x then out.take at_ ++ [x] ++ out.drop at_ else out
def sortF (xs : List F) : List F := xs.foldl (fun o x => ins x o) []
def Asc (xs : List F) : Prop := xs.Pairwise fun a b => vl a < vl b
theorem asc_cut {x : F} (hx : 0 < x.2) : ∀ {out : List F}, Asc out → (∀ y ∈ out, 0 < y.2) → out.take (out.filter fun y => less y x).length = out.filter (fun y => less y x) ∧ ∀ y ∈ out.drop (out.filter fun y => less y x).length, vl x ≤ vl y
  | [], _, _ => ⟨rfl, fun y h => by simp at h⟩
  | h :: out, ha, hp => by
    obtain ⟨h1, h2⟩ := List.pairwise_cons.mp ha
    have hh := hp h List.mem_cons_self
    have ih := asc_cut hx (out := out) h2 fun y hy => hp y (List.mem_cons_of_mem _ hy)
    rw [List.filter_cons]
    by_cases c : less h x = true
    · rw [if_pos c, List.length_cons, List.take_succ_cons, List.drop_succ_cons]
      exact ⟨by rw [ih.1], ih.2⟩
    · rw [if_neg c]
      have c' : ¬ vl h < vl x := by
        rw [less_vl hh hx] at c
        simpa using c
      have e : out.filter (fun y => less y x) = [] := by
        rw [List.filter_eq_nil_iff]
        intro y hy
        rw [less_vl (hp y (List.mem_cons_of_mem _ hy)) hx]
        have := h1 y hy
        simp
        grind
      rw [e]
      refine ⟨rfl, fun y hy => ?_⟩
      rcases List.mem_cons.mp hy with rfl | hy
      · grind
      · have := h1 y hy
        grind
theorem ins_ok {x : F} {out : List F} (hx : Nrm x) (ha : Asc out) (hp : ∀ y ∈ out, Nrm y) : Asc (ins x out) ∧ ∀ y, y ∈ ins x out ↔ y = x ∨ y ∈ out := by
  obtain ⟨h1, h2⟩ := asc_cut hx.1 ha fun y hy => (hp y hy).1
  unfold ins
  simp only
  generalize hn : (out.filter fun y => less y x).length = n at *
  have eo : out = out.take n ++ out.drop n := (List.take_append_drop n out).symm
  have lt : ∀ y ∈ out.take n, vl y < vl x := fun y hy => by
    rw [h1] at hy
    have hm := List.mem_filter.mp hy
    rw [less_vl (hp y hm.1).1 hx.1] at hm
    simpa using hm.2
  by_cases c : n = out.length ∨ out[n]? ≠ some x
  · rw [if_pos c]
    have gt : ∀ y ∈ out.drop n, vl x < vl y := by
      rcases c with c | c
      · intro y hy
        rw [c, List.drop_length] at hy
        simp at hy
      · -- the first one behind is not x, so it is greater
        have hd : Asc (out.drop n) := List.Pairwise.sublist (List.drop_sublist n out) ha
        match e : out.drop n, hd with
        | [], _ => intro y hy; simp at hy
        | z :: r, hd =>
          have hz : z ∈ out := List.mem_of_mem_drop (by rw [e]; exact List.mem_cons_self)
          have ez : out[n]? = some z := by
            have q : (out.drop n)[0]? = some z := by rw [e]; rfl
            rw [List.getElem?_drop] at q
            simpa using q
          have nz : z ≠ x := fun q => c (by rw [ez, q])
          have g1 := h2 z (by rw [e]; exact List.mem_cons_self)
          have g2 : vl z ≠ vl x := fun q => nz (vl_inj (hp z hz) hx q)
          have g3 : vl x < vl z := by grind
          intro y hy
          rcases List.mem_cons.mp hy with rfl | hy
          · exact g3
          · have := (List.pairwise_cons.mp hd).1 y hy
            grind
    refine ⟨?_, fun y => ?_⟩
    · unfold Asc
      rw [List.append_assoc, List.pairwise_append]
      refine ⟨List.Pairwise.sublist (List.take_sublist n out) ha, ?_, fun a ha' b hb => ?_⟩
      · rw [List.singleton_append, List.pairwise_cons]
        exact ⟨gt, List.Pairwise.sublist (List.drop_sublist n out) ha⟩
      · rcases List.mem_append.mp hb with hb | hb
        · rw [List.mem_singleton.mp hb]
          exact lt a ha'
        · have := lt a ha'
          have := gt b hb
          grind
    · rw [List.mem_append, List.mem_append, List.mem_singleton]
      constructor
      · rintro ((h | h) | h)
        · exact .inr (List.mem_of_mem_take h)
        · exact .inl h
        · exact .inr (List.mem_of_mem_drop h)
      · rintro (h | h)
        · exact .inl (.inr h)
        · rw [eo] at h
          rcases List.mem_append.mp h with h | h
          · exact .inl (.inl h)
          · exact .inr h
  · rw [if_neg c]
    refine ⟨ha, fun y => ⟨fun h => .inr h, fun h => ?_⟩⟩
    rcases h with rfl | h
    · have q : out[n]? = some y := by
        refine Classical.byContradiction fun z => c (.inr z)
      exact List.mem_of_getElem? q
    · exact h
theorem sort_snoc (xs : List F) (x : F) : sortF (xs ++ [x]) = ins x (sortF xs) := by
  unfold sortF
  rw [List.foldl_append]
  rfl
theorem foldl_ok : ∀ (xs out : List F), (∀ y ∈ xs, Nrm y) → Asc out → (∀ y ∈ out, Nrm y) → Asc (xs.foldl (fun o x => ins x o) out) ∧ ∀ y, y ∈ xs.foldl (fun o x => ins x o) out ↔ y ∈ xs ∨ y ∈ out
  | [], out, _, ha, _ => ⟨ha, fun y => by simp⟩
  | x :: xs, out, hx, ha, hp => by
    obtain ⟨h1, h2⟩ := ins_ok (hx x List.mem_cons_self) ha hp
    obtain ⟨h3, h4⟩ := foldl_ok xs (ins x out) (fun y hy => hx y (List.mem_cons_of_mem _ hy)) h1 fun y hy => by
      rcases (h2 y).mp hy with rfl | hy
      · exact hx _ List.mem_cons_self
      · exact hp y hy
    refine ⟨h3, fun y => ?_⟩
    rw [List.foldl_cons, h4, h2, List.mem_cons]
    constructor
    · rintro (h | h | h)
      · exact .inl (.inr h)
      · exact .inl (.inl h)
      · exact .inr h
    · rintro ((h | h) | h)
      · exact .inr (.inl h)
      · exact .inl h
      · exact .inr (.inr h)
theorem sort_ok {xs : List F} (h : ∀ y ∈ xs, Nrm y) : Asc (sortF xs) ∧ ∀ y, y ∈ sortF xs ↔ y ∈ xs := by
  obtain ⟨h1, h2⟩ := foldl_ok xs [] h List.Pairwise.nil fun y hy => by simp at hy
  exact ⟨h1, fun y => by rw [show sortF xs = xs.foldl (fun o x => ins x o) [] from rfl, h2]; simp⟩
end FR

/-! Spans of times and the least and greatest of good moments. Plain Lean. -/
namespace FR
theorem asc_head {x : F} : ∀ {xs : List F}, Asc xs → x ∈ xs → (∀ y ∈ xs, vl x ≤ vl y) → xs[0]? = some x
  | [], _, h, _ => by simp at h
  | h :: xs, ha, hx, hy => by
    rcases List.mem_cons.mp hx with rfl | hx
    · rfl
    · have h1 := (List.pairwise_cons.mp ha).1 x hx
      have h2 := hy h List.mem_cons_self
      exfalso
      grind
theorem asc_last {x : F} : ∀ {xs : List F}, Asc xs → x ∈ xs → (∀ y ∈ xs, vl y ≤ vl x) → xs.getLast? = some x
  | [], _, h, _ => by simp at h
  | [h], _, hx, _ => by
    rw [List.mem_singleton.mp hx]
    rfl
  | h :: g :: xs, ha, hx, hy => by
    obtain ⟨h1, h2⟩ := List.pairwise_cons.mp ha
    have hx' : x ∈ g :: xs := by
      rcases List.mem_cons.mp hx with rfl | hx
      · have z1 := h1 g List.mem_cons_self
        have z2 := hy g (List.mem_cons_of_mem _ List.mem_cons_self)
        exfalso
        grind
      · exact hx
    rw [List.getLast?_cons_cons]
    exact asc_last h2 hx' fun y hm => hy y (List.mem_cons_of_mem _ hm)
def more (a b : F) : Bool := less b a
/-- the greater, the lesser of two, as the program takes them -/
def mx (a b : F) : F := bestL more a [a, b]
def mn (a b : F) : F := bestL less a [a, b]
theorem mx_eq (a b : F) (ha : 0 < a.2) (hb : 0 < b.2) : (mx a b = a ∧ vl b ≤ vl a) ∨ (mx a b = b ∧ vl a ≤ vl b) := by
  have e : mx a b = if more b (if more a a then a else a) then b else (if more a a then a else a) := rfl
  have e2 : (if more a a = true then a else a) = a := by split <;> rfl
  rw [e, e2]
  unfold more
  rw [less_vl ha hb]
  by_cases c : vl a < vl b
  · rw [decide_eq_true c, if_pos rfl]
    exact .inr ⟨rfl, by grind⟩
  · rw [decide_eq_false c, if_neg (by decide)]
    exact .inl ⟨rfl, by grind⟩
theorem mn_eq (a b : F) (ha : 0 < a.2) (hb : 0 < b.2) : (mn a b = a ∧ vl a ≤ vl b) ∨ (mn a b = b ∧ vl b ≤ vl a) := by
  have e : mn a b = if less b (if less a a then a else a) then b else (if less a a then a else a) := rfl
  have e2 : (if less a a = true then a else a) = a := by split <;> rfl
  rw [e, e2]
  rw [less_vl hb ha]
  by_cases c : vl b < vl a
  · rw [decide_eq_true c, if_pos rfl]
    exact .inr ⟨rfl, by grind⟩
  · rw [decide_eq_false c, if_neg (by decide)]
    exact .inl ⟨rfl, by grind⟩
def fstM (sp : List (F × F)) : F := sp.foldl (fun f s => mx f s.1) (0, 1)
def lstM (sp : List (F × F)) : F := sp.foldl (fun f s => mn f s.2) (1, 1)
theorem fst_ok : ∀ (sp : List (F × F)) (f : F), 0 < f.2 → (∀ s ∈ sp, 0 < s.1.2) → (sp.foldl (fun f s => mx f s.1) f = f ∨ ∃ s ∈ sp, sp.foldl (fun f s => mx f s.1) f = s.1) ∧ vl f ≤ vl (sp.foldl (fun f s => mx f s.1) f) ∧ ∀ s ∈ sp, vl s.1 ≤ vl (sp.foldl (fun f s => mx f s.1) f)
  | [], f, _, _ => ⟨.inl rfl, by simp, fun s h => by simp at h⟩
  | s :: sp, f, hf, hs => by
    have h1 := hs s List.mem_cons_self
    rw [List.foldl_cons]
    have hm := mx_eq f s.1 hf h1
    have hp : 0 < (mx f s.1).2 := by
      rcases hm with ⟨e, _⟩ | ⟨e, _⟩ <;> rw [e] <;> assumption
    obtain ⟨i1, i2, i3⟩ := fst_ok sp (mx f s.1) hp fun t ht => hs t (List.mem_cons_of_mem _ ht)
    generalize sp.foldl (fun f s => mx f s.1) (mx f s.1) = r at *
    refine ⟨?_, ?_, fun t ht => ?_⟩
    · rcases i1 with e | ⟨t, ht, e⟩
      · rcases hm with ⟨e2, _⟩ | ⟨e2, _⟩
        · exact .inl (e.trans e2)
        · exact .inr ⟨s, List.mem_cons_self, e.trans e2⟩
      · exact .inr ⟨t, List.mem_cons_of_mem _ ht, e⟩
    · rcases hm with ⟨e2, h2⟩ | ⟨e2, h2⟩ <;> rw [e2] at i2 <;> grind
    · rcases List.mem_cons.mp ht with rfl | ht
      · rcases hm with ⟨e2, h2⟩ | ⟨e2, h2⟩ <;> rw [e2] at i2 <;> grind
      · exact i3 t ht
theorem lst_ok : ∀ (sp : List (F × F)) (f : F), 0 < f.2 → (∀ s ∈ sp, 0 < s.2.2) → (sp.foldl (fun f s => mn f s.2) f = f ∨ ∃ s ∈ sp, sp.foldl (fun f s => mn f s.2) f = s.2) ∧ vl (sp.foldl (fun f s => mn f s.2) f) ≤ vl f ∧ ∀ s ∈ sp, vl (sp.foldl (fun f s => mn f s.2) f) ≤ vl s.2
  | [], f, _, _ => ⟨.inl rfl, by simp, fun s h => by simp at h⟩
  | s :: sp, f, hf, hs => by
    have h1 := hs s List.mem_cons_self
    rw [List.foldl_cons]
    have hm := mn_eq f s.2 hf h1
    have hp : 0 < (mn f s.2).2 := by
      rcases hm with ⟨e, _⟩ | ⟨e, _⟩ <;> rw [e] <;> assumption
    obtain ⟨i1, i2, i3⟩ := lst_ok sp (mn f s.2) hp fun t ht => hs t (List.mem_cons_of_mem _ ht)
    generalize sp.foldl (fun f s => mn f s.2) (mn f s.2) = r at *
    refine ⟨?_, ?_, fun t ht => ?_⟩
    · rcases i1 with e | ⟨t, ht, e⟩
      · rcases hm with ⟨e2, _⟩ | ⟨e2, _⟩
        · exact .inl (e.trans e2)
        · exact .inr ⟨s, List.mem_cons_self, e.trans e2⟩
      · exact .inr ⟨t, List.mem_cons_of_mem _ ht, e⟩
    · rcases hm with ⟨e2, h2⟩ | ⟨e2, h2⟩ <;> rw [e2] at i2 <;> grind
    · rcases List.mem_cons.mp ht with rfl | ht
      · rcases hm with ⟨e2, h2⟩ | ⟨e2, h2⟩ <;> rw [e2] at i2 <;> grind
      · exact i3 t ht
/-- what a row of good moments tells -/
def dueM (good : List F) : Option (F × F) := match good[0]?, good.getLast? with
  | some a, some b => some (a, b)
  | _, _ => none
def spanM (sp : List (F × F)) : Option (F × F) := if less (lstM sp) (fstM sp) then none else some (fstM sp, lstM sp)
theorem spans_due {sp : List (F × F)} {ms : List F} {p : F → Bool} (hsp : ∀ s ∈ sp, Nrm s.1 ∧ Nrm s.2) (hms : ∀ m ∈ ms, Nrm m ∧ 0 ≤ vl m ∧ vl m ≤ 1) (h0 : (0, 1) ∈ ms) (h1 : (1, 1) ∈ ms)
    (hp : ∀ t : F, Nrm t → (p t = true ↔ ∀ s ∈ sp, vl s.1 ≤ vl t ∧ vl t ≤ vl s.2)) (hm1 : ∀ s ∈ sp, 0 ≤ vl s.1 → vl s.1 ≤ 1 → s.1 ∈ ms) (hm2 : ∀ s ∈ sp, 0 ≤ vl s.2 → vl s.2 ≤ 1 → s.2 ∈ ms) :
    spanM sp = dueM ((sortF ms).filter p) := by
  obtain ⟨f1, f2, f3⟩ := fst_ok sp (0, 1) (by decide) fun s hs => (hsp s hs).1.1
  obtain ⟨l1, l2, l3⟩ := lst_ok sp (1, 1) (by decide) fun s hs => (hsp s hs).2.1
  change fstM sp = (0, 1) ∨ ∃ s ∈ sp, fstM sp = s.1 at f1
  change vl (0, 1) ≤ vl (fstM sp) at f2
  change ∀ s ∈ sp, vl s.1 ≤ vl (fstM sp) at f3
  change lstM sp = (1, 1) ∨ ∃ s ∈ sp, lstM sp = s.2 at l1
  change vl (lstM sp) ≤ vl (1, 1) at l2
  change ∀ s ∈ sp, vl (lstM sp) ≤ vl s.2 at l3
  have nf : Nrm (fstM sp) := by
    rcases f1 with e | ⟨s, hs, e⟩
    · rw [e]; exact nrm_zero
    · rw [e]; exact (hsp s hs).1
  have nl : Nrm (lstM sp) := by
    rcases l1 with e | ⟨s, hs, e⟩
    · rw [e]; exact nrm_unit
    · rw [e]; exact (hsp s hs).2
  unfold spanM
  generalize fstM sp = f at *
  generalize lstM sp = l at *
  rw [vl_zero] at f2
  rw [vl_one] at l2
  obtain ⟨sa, sm⟩ := sort_ok (xs := ms) fun y hy => (hms y hy).1
  have ga : Asc ((sortF ms).filter p) := List.Pairwise.sublist List.filter_sublist sa
  have gm : ∀ t, t ∈ (sortF ms).filter p ↔ t ∈ ms ∧ p t = true := fun t => by rw [List.mem_filter, sm]
  have gb : ∀ t, t ∈ (sortF ms).filter p → vl f ≤ vl t ∧ vl t ≤ vl l := fun t ht => by
    obtain ⟨h2, h3⟩ := (gm t).mp ht
    obtain ⟨h4, h5, h6⟩ := hms t h2
    have h7 := (hp t h4).mp h3
    constructor
    · rcases f1 with e | ⟨s, hs, e⟩
      · rw [e, vl_zero]
        exact h5
      · rw [e]
        exact (h7 s hs).1
    · rcases l1 with e | ⟨s, hs, e⟩
      · rw [e, vl_one]
        exact h6
      · rw [e]
        exact (h7 s hs).2
  generalize (sortF ms).filter p = good at *
  by_cases c : vl l < vl f
  · rw [less_vl nl.1 nf.1, decide_eq_true c, if_pos rfl]
    match good, gb with
    | [], _ => rfl
    | t :: r, gb =>
      have := gb t List.mem_cons_self
      exfalso
      grind
  · rw [less_vl nl.1 nf.1, decide_eq_false c, if_neg (by decide)]
    have fm : f ∈ good := (gm f).mpr ⟨by
      rcases f1 with e | ⟨s, hs, e⟩
      · rw [e]; exact h0
      · rw [e]
        rw [e] at f2 c
        exact hm1 s hs f2 (by grind), (hp f nf).mpr fun s hs => ⟨f3 s hs, by have := l3 s hs; grind⟩⟩
    have lm : l ∈ good := (gm l).mpr ⟨by
      rcases l1 with e | ⟨s, hs, e⟩
      · rw [e]; exact h1
      · rw [e]
        rw [e] at l2 c
        exact hm2 s hs (by grind) l2, (hp l nl).mpr fun s hs => ⟨by have := f3 s hs; grind, l3 s hs⟩⟩
    unfold dueM
    rw [asc_head ga fm fun y hy => (gb y hy).1, asc_last ga lm fun y hy => (gb y hy).2]
/-! ### a ray against a box, axis by axis -/
structure Ax where
  l : F
  h : F
  o : F
  w : F
structure Ax.Ok (a : Ax) : Prop where
  l : Nrm a.l
  h : Nrm a.h
  o : Nrm a.o
  w : Nrm a.w
def Ax.span (a : Ax) : F × F := if 0 < a.w.1 then (overM (minusM a.l a.o) a.w, overM (minusM a.h a.o) a.w) else (overM (minusM a.h a.o) a.w, overM (minusM a.l a.o) a.w)
def Ax.out (a : Ax) : Bool := a.w.1 == 0 && (decide (0 < (minusM a.l a.o).1) || decide ((minusM a.h a.o).1 < 0))
def Ax.spans (a : Ax) : List (F × F) := if a.w.1 = 0 then [] else [a.span]
def Ax.inside (a : Ax) (t : F) : Bool := !(less (lplus a.o (ltimes a.w t)) a.l || less a.h (lplus a.o (ltimes a.w t)))
def tm (line : F) (a : Ax) : F := lf ((lminus line a.o).1 * a.w.2) ((lminus line a.o).2 * a.w.1)
def keepT (t : F) : List F := if !less t (0, 1) && !less (1, 1) t then [t] else []
def Ax.moms (a : Ax) : List F := if a.w.1 = 0 then [] else keepT (tm a.l a) ++ keepT (tm a.h a)
theorem tm_eq {line : F} {a : Ax} (hl : Nrm line) (ha : a.Ok) (hw : a.w.1 ≠ 0) : tm line a = overM (minusM line a.o) a.w := by
  have n1 := minus_nrm hl ha.o
  have e := lminus_eq hl ha.o
  unfold tm
  rw [e]
  refine vl_inj (lf_nrm (Int.mul_ne_zero (by have := n1.1; omega) hw)) (over_nrm n1 ha.w hw) ?_
  rw [vl_lf (Int.mul_ne_zero (by have := n1.1; omega) hw), vl_over n1 ha.w hw, Rat.intCast_mul, Rat.intCast_mul]
  unfold vl
  have p := cpos n1.1
  have q := cpos ha.w.1
  have p' : ((minusM line a.o).2 : Rat) ≠ 0 := by grind
  have q' : (a.w.2 : Rat) ≠ 0 := by grind
  have r' : (a.w.1 : Rat) ≠ 0 := fun z => hw (Rat.intCast_inj.mp z)
  grind
theorem inside_iff {a : Ax} (ha : a.Ok) {t : F} (ht : Nrm t) : a.inside t = true ↔ vl a.l ≤ vl a.o + vl a.w * vl t ∧ vl a.o + vl a.w * vl t ≤ vl a.h := by
  have n1 := times_nrm ha.w ht
  have n2 := plus_nrm ha.o n1
  unfold Ax.inside
  rw [ltimes_eq ha.w ht, lplus_eq ha.o n1, less_vl n2.1 ha.l.1, less_vl ha.h.1 n2.1, vl_plus ha.o n1, vl_times ha.w ht]
  simp only [Bool.not_eq_true', Bool.or_eq_false_iff, decide_eq_false_iff_not]
  constructor
  · rintro ⟨h1, h2⟩
    exact ⟨by grind, by grind⟩
  · rintro ⟨h1, h2⟩
    exact ⟨by grind, by grind⟩
theorem div_le_pos {x t w : Rat} (hw : 0 < w) : x / w ≤ t ↔ x ≤ w * t := by
  have h := Rat.lt_div_iff (a := t) (b := x) hw
  constructor
  · intro z
    have : ¬ t * w < x := fun q => by have := h.mpr q; grind
    grind
  · intro z
    have : ¬ t < x / w := fun q => by have := h.mp q; grind
    grind
theorem le_div_pos {x t w : Rat} (hw : 0 < w) : t ≤ x / w ↔ w * t ≤ x := by
  have h := Rat.div_lt_iff (a := x) (b := w) (c := t) hw
  constructor
  · intro z
    have : ¬ x < t * w := fun q => by have := h.mpr q; grind
    grind
  · intro z
    have : ¬ x / w < t := fun q => by have := h.mp q; grind
    grind
theorem div_neg_neg {x w : Rat} (hw : w ≠ 0) : x / w = (-x) / (-w) := by
  have : -w ≠ 0 := by grind
  grind
theorem span_iff {a : Ax} (ha : a.Ok) (hw : a.w.1 ≠ 0) (t : F) (ht : Nrm t) : a.inside t = true ↔ vl a.span.1 ≤ vl t ∧ vl t ≤ vl a.span.2 := by
  have nl := minus_nrm ha.l ha.o
  have nh := minus_nrm ha.h ha.o
  rw [inside_iff ha ht]
  have wne : vl a.w ≠ 0 := fun z => by
    have h1 := vl_pos ha.w.1
    have h2 := vl_neg ha.w.1
    have : 0 < a.w.1 ∨ a.w.1 < 0 := by omega
    rcases this with c | c
    · have := h1.mpr c; grind
    · have := h2.mpr c; grind
  unfold Ax.span
  by_cases c : 0 < a.w.1
  · rw [if_pos c]
    have wp := (vl_pos ha.w.1).mpr c
    show _ ↔ vl (overM (minusM a.l a.o) a.w) ≤ vl t ∧ vl t ≤ vl (overM (minusM a.h a.o) a.w)
    rw [vl_over nl ha.w hw, vl_over nh ha.w hw, vl_minus ha.l ha.o, vl_minus ha.h ha.o, div_le_pos wp, le_div_pos wp]
    constructor <;> rintro ⟨h1, h2⟩ <;> exact ⟨by grind, by grind⟩
  · rw [if_neg c]
    have wn := (vl_neg ha.w.1).mpr (show a.w.1 < 0 by omega)
    show _ ↔ vl (overM (minusM a.h a.o) a.w) ≤ vl t ∧ vl t ≤ vl (overM (minusM a.l a.o) a.w)
    have wp : 0 < -vl a.w := by grind
    rw [vl_over nl ha.w hw, vl_over nh ha.w hw, vl_minus ha.l ha.o, vl_minus ha.h ha.o, div_neg_neg wne, div_neg_neg (x := vl a.l - vl a.o) wne, div_le_pos wp, le_div_pos wp]
    constructor <;> rintro ⟨h1, h2⟩ <;> exact ⟨by grind, by grind⟩
theorem keep_mem {t x : F} (ht : 0 < t.2) : x ∈ keepT t ↔ x = t ∧ 0 ≤ vl t ∧ vl t ≤ 1 := by
  unfold keepT
  rw [less_vl ht (by decide), less_vl (by decide) ht, vl_zero, vl_one]
  by_cases c1 : vl t < 0
  · rw [decide_eq_true c1]
    simp
    intro _ h
    grind
  · by_cases c2 : 1 < vl t
    · rw [decide_eq_true c2]
      simp
      intro _ h
      grind
    · rw [decide_eq_false c1, decide_eq_false c2]
      simp
      intro _
      constructor <;> grind
def rayM (a b : Ax) : Option (F × F) := if a.out || b.out then none else spanM (a.spans ++ b.spans)
theorem ax_ok {a : Ax} (ha : a.Ok) (ho : a.out = false) : (∀ s ∈ a.spans, Nrm s.1 ∧ Nrm s.2) ∧ (∀ m ∈ a.moms, Nrm m ∧ 0 ≤ vl m ∧ vl m ≤ 1) ∧ (∀ t : F, Nrm t → (a.inside t = true ↔ ∀ s ∈ a.spans, vl s.1 ≤ vl t ∧ vl t ≤ vl s.2)) ∧
    (∀ s ∈ a.spans, 0 ≤ vl s.1 → vl s.1 ≤ 1 → s.1 ∈ a.moms) ∧ (∀ s ∈ a.spans, 0 ≤ vl s.2 → vl s.2 ≤ 1 → s.2 ∈ a.moms) := by
  have nl := minus_nrm ha.l ha.o
  have nh := minus_nrm ha.h ha.o
  unfold Ax.spans Ax.moms
  by_cases c : a.w.1 = 0
  · rw [if_pos c, if_pos c]
    refine ⟨fun s h => by simp at h, fun s h => by simp at h, fun t ht => ⟨fun _ s h => by simp at h, fun _ => ?_⟩, fun s h => by simp at h, fun s h => by simp at h⟩
    rw [inside_iff ha ht]
    unfold Ax.out at ho
    rw [c] at ho
    simp only [BEq.rfl, Bool.true_and, Bool.or_eq_false_iff, decide_eq_false_iff_not] at ho
    have h1 := vl_pos nl.1
    have h2 := vl_neg nh.1
    rw [vl_minus ha.l ha.o] at h1
    rw [vl_minus ha.h ha.o] at h2
    have w0 : vl a.w = 0 := by
      unfold vl
      rw [c]
      grind
    rw [w0]
    constructor
    · have : ¬ 0 < vl a.l - vl a.o := fun z => ho.1 (h1.mp z)
      grind
    · have : ¬ vl a.h - vl a.o < 0 := fun z => ho.2 (h2.mp z)
      grind
  · rw [if_neg c, if_neg c, tm_eq ha.l ha c, tm_eq ha.h ha c]
    have n1 := over_nrm nl ha.w c
    have n2 := over_nrm nh ha.w c
    have ns : Nrm a.span.1 ∧ Nrm a.span.2 := by
      unfold Ax.span
      split
      · exact ⟨n1, n2⟩
      · exact ⟨n2, n1⟩
    have sm : ∀ x, x = a.span.1 ∨ x = a.span.2 → 0 ≤ vl x → vl x ≤ 1 → x ∈ keepT (overM (minusM a.l a.o) a.w) ++ keepT (overM (minusM a.h a.o) a.w) := fun x hx h1 h2 => by
      rw [List.mem_append, keep_mem n1.1, keep_mem n2.1]
      unfold Ax.span at hx
      split at hx
      · rcases hx with rfl | rfl
        · exact .inl ⟨rfl, h1, h2⟩
        · exact .inr ⟨rfl, h1, h2⟩
      · rcases hx with rfl | rfl
        · exact .inr ⟨rfl, h1, h2⟩
        · exact .inl ⟨rfl, h1, h2⟩
    refine ⟨fun s hs => by rw [List.mem_singleton.mp hs]; exact ns, fun m hm => ?_, fun t ht => ?_, fun s hs h1 h2 => ?_, fun s hs h1 h2 => ?_⟩
    · rcases List.mem_append.mp hm with hm | hm
      · obtain ⟨rfl, h1, h2⟩ := (keep_mem n1.1).mp hm
        exact ⟨n1, h1, h2⟩
      · obtain ⟨rfl, h1, h2⟩ := (keep_mem n2.1).mp hm
        exact ⟨n2, h1, h2⟩
    · rw [span_iff ha c t ht]
      constructor
      · intro h s hs
        rw [List.mem_singleton.mp hs]
        exact h
      · intro h
        exact h _ (List.mem_singleton.mpr rfl)
    · rw [List.mem_singleton.mp hs] at h1 h2 ⊢
      exact sm _ (.inl rfl) h1 h2
    · rw [List.mem_singleton.mp hs] at h1 h2 ⊢
      exact sm _ (.inr rfl) h1 h2
theorem out_none {a : Ax} (ha : a.Ok) (ho : a.out = true) (t : F) (ht : Nrm t) : a.inside t = false := by
  have nl := minus_nrm ha.l ha.o
  have nh := minus_nrm ha.h ha.o
  refine Bool.eq_false_iff.mpr fun z => ?_
  rw [inside_iff ha ht] at z
  unfold Ax.out at ho
  simp only [Bool.and_eq_true, beq_iff_eq, Bool.or_eq_true, decide_eq_true_eq] at ho
  obtain ⟨c, ho⟩ := ho
  have h1 := vl_pos nl.1
  have h2 := vl_neg nh.1
  rw [vl_minus ha.l ha.o] at h1
  rw [vl_minus ha.h ha.o] at h2
  have w0 : vl a.w = 0 := by
    unfold vl
    rw [c]
    grind
  rw [w0] at z
  rcases ho with ho | ho
  · have := h1.mpr ho
    grind
  · have := h2.mpr ho
    grind
theorem moms_ok {a : Ax} (ha : a.Ok) : ∀ m ∈ a.moms, Nrm m ∧ 0 ≤ vl m ∧ vl m ≤ 1 := fun m hm => by
  have nl := minus_nrm ha.l ha.o
  have nh := minus_nrm ha.h ha.o
  unfold Ax.moms at hm
  by_cases c : a.w.1 = 0
  · rw [if_pos c] at hm
    simp at hm
  · rw [if_neg c, tm_eq ha.l ha c, tm_eq ha.h ha c] at hm
    have n1 := over_nrm nl ha.w c
    have n2 := over_nrm nh ha.w c
    rcases List.mem_append.mp hm with hm | hm
    · obtain ⟨rfl, h1, h2⟩ := (keep_mem n1.1).mp hm
      exact ⟨n1, h1, h2⟩
    · obtain ⟨rfl, h1, h2⟩ := (keep_mem n2.1).mp hm
      exact ⟨n2, h1, h2⟩
/-- the program's answer is what the good moments tell -/
theorem ray_due {a b : Ax} (ha : a.Ok) (hb : b.Ok) : rayM a b = dueM ((sortF ([(0, 1), (1, 1)] ++ a.moms ++ b.moms)).filter fun t => a.inside t && b.inside t) := by
  have hms : ∀ m ∈ [(0, 1), (1, 1)] ++ a.moms ++ b.moms, Nrm m ∧ 0 ≤ vl m ∧ vl m ≤ 1 := fun m hm => by
    rcases List.mem_append.mp hm with hm | hm
    · rcases List.mem_append.mp hm with hm | hm
      · rcases List.mem_cons.mp hm with rfl | hm
        · exact ⟨nrm_zero, by rw [vl_zero]; grind, by rw [vl_zero]; grind⟩
        · rw [List.mem_singleton.mp hm]
          exact ⟨nrm_unit, by rw [vl_one]; grind, by rw [vl_one]; grind⟩
      · exact moms_ok ha m hm
    · exact moms_ok hb m hm
  have empty : ∀ p : F → Bool, (∀ t, Nrm t → p t = false) → none = dueM ((sortF ([(0, 1), (1, 1)] ++ a.moms ++ b.moms)).filter p) := fun p hp => by
    have e : (sortF ([(0, 1), (1, 1)] ++ a.moms ++ b.moms)).filter p = [] := by
      rw [List.filter_eq_nil_iff]
      intro t ht
      rw [(sort_ok (fun y hy => (hms y hy).1)).2] at ht
      rw [hp t (hms t ht).1]
      decide
    rw [e]
    rfl
  unfold rayM
  cases oa : a.out with
  | true => exact empty _ fun t ht => by rw [out_none ha oa t ht]; rfl
  | false =>
    cases ob : b.out with
    | true => exact empty _ fun t ht => by rw [out_none hb ob t ht, Bool.and_false]
    | false =>
      obtain ⟨a1, a2, a3, a4, a5⟩ := ax_ok ha oa
      obtain ⟨b1, b2, b3, b4, b5⟩ := ax_ok hb ob
      rw [if_neg (by decide)]
      refine spans_due (fun s hs => ?_) hms (by simp) (by simp) (fun t ht => ?_) (fun s hs h1 h2 => ?_) (fun s hs h1 h2 => ?_)
      · rcases List.mem_append.mp hs with hs | hs
        · exact a1 s hs
        · exact b1 s hs
      · rw [Bool.and_eq_true, a3 t ht, b3 t ht]
        constructor
        · rintro ⟨h1, h2⟩ s hs
          rcases List.mem_append.mp hs with hs | hs
          · exact h1 s hs
          · exact h2 s hs
        · intro h
          exact ⟨fun s hs => h s (List.mem_append_left _ hs), fun s hs => h s (List.mem_append_right _ hs)⟩
      · rcases List.mem_append.mp hs with hs | hs
        · exact List.mem_append_left _ (List.mem_append_right _ (a4 s hs h1 h2))
        · exact List.mem_append_right _ (b4 s hs h1 h2)
      · rcases List.mem_append.mp hs with hs | hs
        · exact List.mem_append_left _ (List.mem_append_right _ (a5 s hs h1 h2))
        · exact List.mem_append_right _ (b5 s hs h1 h2)
end FR

/-! Two moving boxes: spans of times against the gaps between moments. Plain Lean. -/
namespace FR
theorem nat_head {x : Nat} : ∀ {xs : List Nat}, xs.Pairwise (· < ·) → x ∈ xs → (∀ y ∈ xs, x ≤ y) → xs[0]? = some x
  | [], _, h, _ => by simp at h
  | h :: xs, ha, hx, hy => by
    rcases List.mem_cons.mp hx with rfl | hx
    · rfl
    · have h1 := (List.pairwise_cons.mp ha).1 x hx
      have h2 := hy h List.mem_cons_self
      omega
theorem nat_last {x : Nat} : ∀ {xs : List Nat}, xs.Pairwise (· < ·) → x ∈ xs → (∀ y ∈ xs, y ≤ x) → xs.getLast? = some x
  | [], _, h, _ => by simp at h
  | [h], _, hx, _ => by
    rw [List.mem_singleton.mp hx]
    rfl
  | h :: g :: xs, ha, hx, hy => by
    obtain ⟨h1, h2⟩ := List.pairwise_cons.mp ha
    have hx' : x ∈ g :: xs := by
      rcases List.mem_cons.mp hx with rfl | hx
      · have z1 := h1 g List.mem_cons_self
        have z2 := hy g (List.mem_cons_of_mem _ List.mem_cons_self)
        omega
      · exact hx
    rw [List.getLast?_cons_cons]
    exact nat_last h2 hx' fun y hm => hy y (List.mem_cons_of_mem _ hm)
/-- the middle of two moments -/
def mid (x y : F) : F := ltimes (lplus x y) (1, 2)
theorem nrm_half : Nrm ((1, 2) : F) := ⟨by decide, by decide⟩
theorem vl_half : vl (1, 2) = 1 / 2 := by unfold vl; grind
theorem mid_nrm {x y : F} (hx : Nrm x) (hy : Nrm y) : Nrm (mid x y) := by
  unfold mid
  rw [lplus_eq hx hy, ltimes_eq (plus_nrm hx hy) nrm_half]
  exact times_nrm (plus_nrm hx hy) nrm_half
theorem vl_mid {x y : F} (hx : Nrm x) (hy : Nrm y) : vl (mid x y) = (vl x + vl y) / 2 := by
  unfold mid
  rw [lplus_eq hx hy, ltimes_eq (plus_nrm hx hy) nrm_half, vl_times (plus_nrm hx hy) nrm_half, vl_plus hx hy, vl_half]
  grind
/-- the gaps between moments in which p holds -/
def inK (ms : List F) (p : F → Bool) : List Nat := (List.range (ms.length - 1)).filter fun k => p (mid (ms.getD k (0, 1)) (ms.getD (k + 1) (0, 1)))
def dueK (ms : List F) (p : F → Bool) : Option (F × F) := match (inK ms p)[0]?, (inK ms p).getLast? with
  | some i, some j => some (ms.getD i (0, 1), ms.getD (j + 1) (0, 1))
  | _, _ => none
def spanS (sp : List (F × F)) : Option (F × F) := if less (fstM sp) (lstM sp) then some (fstM sp, lstM sp) else none
theorem getD_mem {ms : List F} {k : Nat} (h : k < ms.length) : ms.getD k (0, 1) ∈ ms := by
  rw [List.getD_eq_getElem?_getD, List.getElem?_eq_getElem h]
  exact List.getElem_mem h
theorem getD_asc {ms : List F} (ha : Asc ms) {i j : Nat} (h : i < j) (hj : j < ms.length) : vl (ms.getD i (0, 1)) < vl (ms.getD j (0, 1)) := by
  rw [List.getD_eq_getElem?_getD, List.getD_eq_getElem?_getD, List.getElem?_eq_getElem hj, List.getElem?_eq_getElem (by omega)]
  exact List.pairwise_iff_getElem.mp ha i j (by omega) hj h
theorem getD_le {ms : List F} (ha : Asc ms) {i j : Nat} (h : i ≤ j) (hj : j < ms.length) : vl (ms.getD i (0, 1)) ≤ vl (ms.getD j (0, 1)) := by
  by_cases c : i = j
  · rw [c]; grind
  · have := getD_asc ha (show i < j by omega) hj
    grind
theorem gaps_due {sp : List (F × F)} {ms : List F} {p : F → Bool} (hsp : ∀ s ∈ sp, Nrm s.1 ∧ Nrm s.2) (hms : ∀ m ∈ ms, Nrm m ∧ 0 ≤ vl m ∧ vl m ≤ 1) (h0 : (0, 1) ∈ ms) (h1 : (1, 1) ∈ ms)
    (hp : ∀ t : F, Nrm t → (p t = true ↔ ∀ s ∈ sp, vl s.1 < vl t ∧ vl t < vl s.2)) (hm1 : ∀ s ∈ sp, 0 ≤ vl s.1 → vl s.1 ≤ 1 → s.1 ∈ ms) (hm2 : ∀ s ∈ sp, 0 ≤ vl s.2 → vl s.2 ≤ 1 → s.2 ∈ ms) :
    spanS sp = dueK (sortF ms) p ∧ (∀ r, spanS sp = some r → p (mid r.1 r.2) = true ∧ Nrm r.1 ∧ Nrm r.2) := by
  obtain ⟨f1, f2, f3⟩ := fst_ok sp (0, 1) (by decide) fun s hs => (hsp s hs).1.1
  obtain ⟨l1, l2, l3⟩ := lst_ok sp (1, 1) (by decide) fun s hs => (hsp s hs).2.1
  change fstM sp = (0, 1) ∨ ∃ s ∈ sp, fstM sp = s.1 at f1
  change vl (0, 1) ≤ vl (fstM sp) at f2
  change ∀ s ∈ sp, vl s.1 ≤ vl (fstM sp) at f3
  change lstM sp = (1, 1) ∨ ∃ s ∈ sp, lstM sp = s.2 at l1
  change vl (lstM sp) ≤ vl (1, 1) at l2
  change ∀ s ∈ sp, vl (lstM sp) ≤ vl s.2 at l3
  have nf : Nrm (fstM sp) := by
    rcases f1 with e | ⟨s, hs, e⟩
    · rw [e]; exact nrm_zero
    · rw [e]; exact (hsp s hs).1
  have nl : Nrm (lstM sp) := by
    rcases l1 with e | ⟨s, hs, e⟩
    · rw [e]; exact nrm_unit
    · rw [e]; exact (hsp s hs).2
  unfold spanS
  generalize fstM sp = f at *
  generalize lstM sp = l at *
  rw [vl_zero] at f2
  rw [vl_one] at l2
  obtain ⟨sa, sm⟩ := sort_ok (xs := ms) fun y hy => (hms y hy).1
  have fm : vl f ≤ 1 → f ∈ sortF ms := fun z => (sm f).mpr (by
    rcases f1 with e | ⟨s, hs, e⟩
    · rw [e]; exact h0
    · rw [e]; rw [e] at f2 z; exact hm1 s hs f2 z)
  have lm : 0 ≤ vl l → l ∈ sortF ms := fun z => (sm l).mpr (by
    rcases l1 with e | ⟨s, hs, e⟩
    · rw [e]; exact h1
    · rw [e]; rw [e] at l2 z; exact hm2 s hs z l2)
  have hss : ∀ m ∈ sortF ms, Nrm m ∧ 0 ≤ vl m ∧ vl m ≤ 1 := fun m hm => hms m ((sm m).mp hm)
  generalize sortF ms = ss at *
  -- what p says of a middle
  have fin : ∀ x y : F, Nrm x → Nrm y → vl x < vl y → vl f ≤ vl x → vl y ≤ vl l → p (mid x y) = true := fun x y hx hy h a b => by
    rw [hp _ (mid_nrm hx hy), vl_mid hx hy]
    intro s hs
    have := f3 s hs
    have := l3 s hs
    constructor <;> grind
  have fout : ∀ x y : F, Nrm x → Nrm y → 0 ≤ vl x → vl y ≤ 1 → vl x < vl y → p (mid x y) = true → vl f < (vl x + vl y) / 2 ∧ (vl x + vl y) / 2 < vl l := fun x y hx hy a b h z => by
    rw [hp _ (mid_nrm hx hy), vl_mid hx hy] at z
    constructor
    · rcases f1 with e | ⟨s, hs, e⟩
      · rw [e, vl_zero]; grind
      · rw [e]; exact (z s hs).1
    · rcases l1 with e | ⟨s, hs, e⟩
      · rw [e, vl_one]; grind
      · rw [e]; exact (z s hs).2
  have hk : ∀ k, k + 1 < ss.length → Nrm (ss.getD k (0, 1)) ∧ Nrm (ss.getD (k + 1) (0, 1)) ∧ 0 ≤ vl (ss.getD k (0, 1)) ∧ vl (ss.getD (k + 1) (0, 1)) ≤ 1 ∧ vl (ss.getD k (0, 1)) < vl (ss.getD (k + 1) (0, 1)) := fun k h => by
    have a := hss _ (getD_mem (show k < ss.length by omega))
    have b := hss _ (getD_mem h)
    exact ⟨a.1, b.1, a.2.1, b.2.2, getD_asc sa (by omega) h⟩
  have kin : ∀ k, k ∈ inK ss p ↔ k + 1 < ss.length ∧ p (mid (ss.getD k (0, 1)) (ss.getD (k + 1) (0, 1))) = true := fun k => by
    unfold inK
    rw [List.mem_filter, List.mem_range]
    constructor <;> rintro ⟨a, b⟩ <;> exact ⟨by omega, b⟩
  have kp : (inK ss p).Pairwise (· < ·) := List.Pairwise.sublist List.filter_sublist List.pairwise_lt_range
  rw [less_vl nf.1 nl.1]
  by_cases c : vl f < vl l
  · rw [decide_eq_true c, if_pos rfl]
    refine ⟨?_, fun r hr => by
      obtain rfl := Option.some.inj hr
      exact ⟨fin f l nf nl c (by grind) (by grind), nf, nl⟩⟩
    have fm := fm (by grind)
    have lm := lm (by grind)
    obtain ⟨i, hi, ei⟩ := List.getElem_of_mem fm
    obtain ⟨j, hj, ej⟩ := List.getElem_of_mem lm
    have ei' : ss.getD i (0, 1) = f := by rw [List.getD_eq_getElem?_getD, List.getElem?_eq_getElem hi]; exact ei
    have ej' : ss.getD j (0, 1) = l := by rw [List.getD_eq_getElem?_getD, List.getElem?_eq_getElem hj]; exact ej
    have hij : i < j := by
      by_cases z : i < j
      · exact z
      · have := getD_le sa (show j ≤ i by omega) hi
        rw [ei', ej'] at this
        grind
    have kk : ∀ k, k ∈ inK ss p ↔ i ≤ k ∧ k + 1 ≤ j := fun k => by
      rw [kin]
      constructor
      · rintro ⟨a, b⟩
        obtain ⟨n1, n2, g1, g2, g3⟩ := hk k a
        obtain ⟨q1, q2⟩ := fout _ _ n1 n2 g1 g2 g3 b
        constructor
        · by_cases z : i ≤ k
          · exact z
          · have := getD_le sa (show k + 1 ≤ i by omega) hi
            rw [ei'] at this
            grind
        · by_cases z : k + 1 ≤ j
          · exact z
          · have := getD_le sa (show j ≤ k by omega) (by omega)
            rw [ej'] at this
            grind
      · rintro ⟨a, b⟩
        have hk1 : k + 1 < ss.length := by omega
        obtain ⟨n1, n2, g1, g2, g3⟩ := hk k hk1
        refine ⟨hk1, fin _ _ n1 n2 g3 ?_ ?_⟩
        · rw [← ei']; exact getD_le sa a (by omega)
        · rw [← ej']; exact getD_le sa b hj
    have e1 : (inK ss p)[0]? = some i := nat_head kp ((kk i).mpr ⟨by omega, by omega⟩) fun y hy => ((kk y).mp hy).1
    have e2 : (inK ss p).getLast? = some (j - 1) := nat_last kp ((kk (j - 1)).mpr ⟨by omega, by omega⟩) fun y hy => by have := ((kk y).mp hy).2; omega
    unfold dueK
    rw [e1, e2]
    show _ = some (ss.getD i (0, 1), ss.getD (j - 1 + 1) (0, 1))
    rw [show j - 1 + 1 = j by omega, ei', ej']
  · rw [decide_eq_false c, if_neg (by decide)]
    refine ⟨?_, fun r hr => by cases hr⟩
    have e : inK ss p = [] := by
      rw [List.eq_nil_iff_forall_not_mem]
      intro k hkm
      obtain ⟨a, b⟩ := (kin k).mp hkm
      obtain ⟨n1, n2, g1, g2, g3⟩ := hk k a
      obtain ⟨q1, q2⟩ := fout _ _ n1 n2 g1 g2 g3 b
      grind
    unfold dueK
    rw [e]
    rfl
/-! ### two boxes on an axis: low end, size and way of each -/
structure Sx where
  la : F
  sa : F
  va : F
  lb : F
  sb : F
  vb : F
structure Sx.Ok (a : Sx) : Prop where
  la : Nrm a.la
  sa : Nrm a.sa
  va : Nrm a.va
  lb : Nrm a.lb
  sb : Nrm a.sb
  vb : Nrm a.vb
def Sx.w (a : Sx) : F := minusM a.vb a.va
def Sx.lo (a : Sx) : F := minusM a.la (plusM a.lb a.sb)
def Sx.hi (a : Sx) : F := minusM (plusM a.la a.sa) a.lb
def Sx.out (a : Sx) : Bool := a.w.1 == 0 && (decide (0 ≤ a.lo.1) || decide (a.hi.1 ≤ 0))
def Sx.span (a : Sx) : F × F := if 0 < a.w.1 then (overM a.lo a.w, overM a.hi a.w) else (overM a.hi a.w, overM a.lo a.w)
def Sx.spans (a : Sx) : List (F × F) := if a.w.1 = 0 then [] else [a.span]
def lmx (x y : F) : F := if less x y then y else x
def gapM (pa sa pb sb : F) : F := lmx (lminus pb (lplus pa sa)) (lminus pa (lplus pb sb))
def Sx.inside (a : Sx) (t : F) : Bool := decide ((gapM (lplus a.la (ltimes a.va t)) a.sa (lplus a.lb (ltimes a.vb t)) a.sb).1 < 0)
def tmG (g w : F) : F := lf (g.1 * w.2) (g.2 * w.1)
def Sx.moms (a : Sx) : List F := if a.w.1 = 0 then [] else keepT (tmG a.hi a.w) ++ keepT (tmG a.lo a.w)
theorem tmG_eq {g w : F} (hg : Nrm g) (hw : Nrm w) (h : w.1 ≠ 0) : tmG g w = overM g w := by
  unfold tmG
  refine vl_inj (lf_nrm (Int.mul_ne_zero (by have := hg.1; omega) h)) (over_nrm hg hw h) ?_
  rw [vl_lf (Int.mul_ne_zero (by have := hg.1; omega) h), vl_over hg hw h, Rat.intCast_mul, Rat.intCast_mul]
  unfold vl
  have p := cpos hg.1
  have q := cpos hw.1
  have p' : (g.2 : Rat) ≠ 0 := by grind
  have q' : (w.2 : Rat) ≠ 0 := by grind
  have r' : (w.1 : Rat) ≠ 0 := fun z => h (Rat.intCast_inj.mp z)
  grind
section
variable {a : Sx} (ha : a.Ok)
include ha
theorem Sx.Ok.nw : Nrm a.w := minus_nrm ha.vb ha.va
theorem Sx.Ok.nlo : Nrm a.lo := minus_nrm ha.la (plus_nrm ha.lb ha.sb)
theorem Sx.Ok.nhi : Nrm a.hi := minus_nrm (plus_nrm ha.la ha.sa) ha.lb
theorem Sx.Ok.vw : vl a.w = vl a.vb - vl a.va := vl_minus ha.vb ha.va
theorem Sx.Ok.vlo : vl a.lo = vl a.la - (vl a.lb + vl a.sb) := by
  unfold Sx.lo
  rw [vl_minus ha.la (plus_nrm ha.lb ha.sb), vl_plus ha.lb ha.sb]
theorem Sx.Ok.vhi : vl a.hi = vl a.la + vl a.sa - vl a.lb := by
  unfold Sx.hi
  rw [vl_minus (plus_nrm ha.la ha.sa) ha.lb, vl_plus ha.la ha.sa]
omit ha in
theorem gap_iff {pa sa pb sb : F} (h1 : Nrm pa) (h2 : Nrm sa) (h3 : Nrm pb) (h4 : Nrm sb) : (gapM pa sa pb sb).1 < 0 ↔ vl pb < vl pa + vl sa ∧ vl pa < vl pb + vl sb := by
  have n1 := plus_nrm h1 h2
  have n2 := plus_nrm h3 h4
  have n3 := minus_nrm h3 n1
  have n4 := minus_nrm h1 n2
  unfold gapM lmx
  rw [lplus_eq h1 h2, lplus_eq h3 h4, lminus_eq h3 n1, lminus_eq h1 n2, less_vl n3.1 n4.1]
  have e1 : vl (minusM pb (plusM pa sa)) = vl pb - (vl pa + vl sa) := by rw [vl_minus h3 n1, vl_plus h1 h2]
  have e2 : vl (minusM pa (plusM pb sb)) = vl pa - (vl pb + vl sb) := by rw [vl_minus h1 n2, vl_plus h3 h4]
  by_cases c : vl (minusM pb (plusM pa sa)) < vl (minusM pa (plusM pb sb))
  · rw [decide_eq_true c, if_pos rfl, ← vl_neg n4.1]
    constructor
    · intro z; constructor <;> grind
    · rintro ⟨z1, z2⟩; grind
  · rw [decide_eq_false c, if_neg (by decide), ← vl_neg n3.1]
    constructor
    · intro z; constructor <;> grind
    · rintro ⟨z1, z2⟩; grind
theorem Sx.inside_iff {t : F} (ht : Nrm t) : a.inside t = true ↔ vl a.lo < vl a.w * vl t ∧ vl a.w * vl t < vl a.hi := by
  have m1 := times_nrm ha.va ht
  have m2 := times_nrm ha.vb ht
  unfold Sx.inside
  rw [ltimes_eq ha.va ht, ltimes_eq ha.vb ht, lplus_eq ha.la m1, lplus_eq ha.lb m2, decide_eq_true_iff, gap_iff (plus_nrm ha.la m1) ha.sa (plus_nrm ha.lb m2) ha.sb, vl_plus ha.la m1, vl_plus ha.lb m2, vl_times ha.va ht, vl_times ha.vb ht, ha.vw, ha.vlo, ha.vhi]
  constructor <;> rintro ⟨z1, z2⟩ <;> constructor <;> grind
end
theorem zero_iff {x : F} (hx : 0 < x.2) : x.1 = 0 ↔ vl x = 0 := by
  have h1 := vl_pos hx
  have h2 := vl_neg hx
  constructor
  · intro z
    have a : ¬ 0 < vl x := fun q => by have := h1.mp q; omega
    have b : ¬ vl x < 0 := fun q => by have := h2.mp q; omega
    grind
  · intro z
    have a : ¬ 0 < x.1 := fun q => by have := h1.mpr q; grind
    have b : ¬ x.1 < 0 := fun q => by have := h2.mpr q; grind
    omega
theorem nneg_iff {x : F} (hx : 0 < x.2) : 0 ≤ x.1 ↔ 0 ≤ vl x := by
  have h2 := vl_neg hx
  constructor
  · intro z
    have b : ¬ vl x < 0 := fun q => by have := h2.mp q; omega
    grind
  · intro z
    have b : ¬ x.1 < 0 := fun q => by have := h2.mpr q; grind
    omega
theorem npos_iff {x : F} (hx : 0 < x.2) : x.1 ≤ 0 ↔ vl x ≤ 0 := by
  have h2 := vl_pos hx
  constructor
  · intro z
    have b : ¬ 0 < vl x := fun q => by have := h2.mp q; omega
    grind
  · intro z
    have b : ¬ 0 < x.1 := fun q => by have := h2.mpr q; grind
    omega
theorem div_lt_pos {x t w : Rat} (hw : 0 < w) : x / w < t ↔ x < w * t := by
  have h := le_div_pos (x := x) (t := t) hw
  constructor
  · intro z
    have : ¬ w * t ≤ x := fun q => by have := h.mpr q; grind
    grind
  · intro z
    have : ¬ t ≤ x / w := fun q => by have := h.mp q; grind
    grind
theorem lt_div_pos {x t w : Rat} (hw : 0 < w) : t < x / w ↔ w * t < x := by
  have h := div_le_pos (x := x) (t := t) hw
  constructor
  · intro z
    have : ¬ x ≤ w * t := fun q => by have := h.mpr q; grind
    grind
  · intro z
    have : ¬ x / w ≤ t := fun q => by have := h.mp q; grind
    grind
theorem span_lt {a : Sx} (ha : a.Ok) (hw : a.w.1 ≠ 0) {t : F} (ht : Nrm t) : a.inside t = true ↔ vl a.span.1 < vl t ∧ vl t < vl a.span.2 := by
  rw [Sx.inside_iff ha ht]
  have nw := ha.nw
  have nl := ha.nlo
  have nh := ha.nhi
  have wne : vl a.w ≠ 0 := fun z => hw ((zero_iff nw.1).mpr z)
  unfold Sx.span
  by_cases c : 0 < a.w.1
  · rw [if_pos c]
    have wp := (vl_pos nw.1).mpr c
    show _ ↔ vl (overM a.lo a.w) < vl t ∧ vl t < vl (overM a.hi a.w)
    rw [vl_over nl nw hw, vl_over nh nw hw, div_lt_pos wp, lt_div_pos wp]
  · rw [if_neg c]
    have wn := (vl_neg nw.1).mpr (show a.w.1 < 0 by omega)
    show _ ↔ vl (overM a.hi a.w) < vl t ∧ vl t < vl (overM a.lo a.w)
    have wp : 0 < -vl a.w := by grind
    rw [vl_over nl nw hw, vl_over nh nw hw, div_neg_neg wne, div_neg_neg (x := vl a.lo) wne, div_lt_pos wp, lt_div_pos wp]
    constructor <;> rintro ⟨h1, h2⟩ <;> exact ⟨by grind, by grind⟩
theorem still_iff {a : Sx} (ha : a.Ok) (hw : a.w.1 = 0) {t : F} (ht : Nrm t) : a.inside t = true ↔ a.out = false := by
  rw [Sx.inside_iff ha ht, (zero_iff ha.nw.1).mp hw]
  have h1 := nneg_iff ha.nlo.1
  have h2 := npos_iff ha.nhi.1
  unfold Sx.out
  rw [hw]
  show _ ↔ (true && (decide (0 ≤ a.lo.1) || decide (a.hi.1 ≤ 0))) = false
  rw [Bool.true_and, Bool.or_eq_false_iff, decide_eq_false_iff_not, decide_eq_false_iff_not, h1, h2]
  constructor <;> rintro ⟨z1, z2⟩ <;> constructor <;> grind
def sweepM (a b : Sx) : Option (F × F) := if a.out || b.out then none else spanS (a.spans ++ b.spans)
theorem sx_ok {a : Sx} (ha : a.Ok) : (∀ s ∈ a.spans, Nrm s.1 ∧ Nrm s.2) ∧ (∀ m ∈ a.moms, Nrm m ∧ 0 ≤ vl m ∧ vl m ≤ 1) ∧ (a.out = false → ∀ t : F, Nrm t → (a.inside t = true ↔ ∀ s ∈ a.spans, vl s.1 < vl t ∧ vl t < vl s.2)) ∧
    (∀ s ∈ a.spans, 0 ≤ vl s.1 → vl s.1 ≤ 1 → s.1 ∈ a.moms) ∧ (∀ s ∈ a.spans, 0 ≤ vl s.2 → vl s.2 ≤ 1 → s.2 ∈ a.moms) := by
  by_cases c : a.w.1 = 0
  · have e1 : a.spans = [] := if_pos c
    have e2 : a.moms = [] := if_pos c
    rw [e1, e2]
    refine ⟨fun s h => by simp at h, fun s h => by simp at h, fun ho t ht => ?_, fun s h => by simp at h, fun s h => by simp at h⟩
    rw [still_iff ha c ht]
    constructor
    · intro _ s h; simp at h
    · intro _; exact ho
  · have e1 : a.spans = [a.span] := if_neg c
    have e2 : a.moms = keepT (overM a.hi a.w) ++ keepT (overM a.lo a.w) := by
      unfold Sx.moms
      rw [if_neg c, tmG_eq ha.nhi ha.nw c, tmG_eq ha.nlo ha.nw c]
    rw [e1, e2]
    have n1 := over_nrm ha.nhi ha.nw c
    have n2 := over_nrm ha.nlo ha.nw c
    have ee : (a.span.1 = overM a.lo a.w ∧ a.span.2 = overM a.hi a.w) ∨ (a.span.1 = overM a.hi a.w ∧ a.span.2 = overM a.lo a.w) := by
      unfold Sx.span
      split
      · exact .inl ⟨rfl, rfl⟩
      · exact .inr ⟨rfl, rfl⟩
    refine ⟨fun s h => ?_, fun m hm => ?_, fun ho t ht => ?_, fun s h h1 h2 => ?_, fun s h h1 h2 => ?_⟩
    · rw [List.mem_singleton.mp h]
      rcases ee with ⟨z1, z2⟩ | ⟨z1, z2⟩ <;> rw [z1, z2] <;> exact ⟨by assumption, by assumption⟩
    · rcases List.mem_append.mp hm with hm | hm
      · obtain ⟨rfl, h1, h2⟩ := (keep_mem n1.1).mp hm
        exact ⟨n1, h1, h2⟩
      · obtain ⟨rfl, h1, h2⟩ := (keep_mem n2.1).mp hm
        exact ⟨n2, h1, h2⟩
    · rw [span_lt ha c ht]
      constructor
      · intro z s hs
        rw [List.mem_singleton.mp hs]
        exact z
      · intro z
        exact z _ (List.mem_singleton.mpr rfl)
    · rw [List.mem_singleton.mp h] at h1 h2 ⊢
      rcases ee with ⟨z1, z2⟩ | ⟨z1, z2⟩
      · rw [z1] at h1 h2 ⊢
        exact List.mem_append_right _ ((keep_mem n2.1).mpr ⟨rfl, h1, h2⟩)
      · rw [z1] at h1 h2 ⊢
        exact List.mem_append_left _ ((keep_mem n1.1).mpr ⟨rfl, h1, h2⟩)
    · rw [List.mem_singleton.mp h] at h1 h2 ⊢
      rcases ee with ⟨z1, z2⟩ | ⟨z1, z2⟩
      · rw [z2] at h1 h2 ⊢
        exact List.mem_append_left _ ((keep_mem n1.1).mpr ⟨rfl, h1, h2⟩)
      · rw [z2] at h1 h2 ⊢
        exact List.mem_append_right _ ((keep_mem n2.1).mpr ⟨rfl, h1, h2⟩)
theorem out_never {a : Sx} (ha : a.Ok) (ho : a.out = true) {t : F} (ht : Nrm t) : a.inside t = false := by
  have hw : a.w.1 = 0 := by
    unfold Sx.out at ho
    rw [Bool.and_eq_true] at ho
    simpa using ho.1
  rw [Bool.eq_false_iff]
  intro z
  rw [(still_iff ha hw ht).mp z] at ho
  cases ho
theorem sweep_due {a b : Sx} (ha : a.Ok) (hb : b.Ok) : sweepM a b = dueK (sortF ([(0, 1), (1, 1)] ++ a.moms ++ b.moms)) (fun t => a.inside t && b.inside t) ∧
    (∀ r, sweepM a b = some r → (a.inside (mid r.1 r.2) && b.inside (mid r.1 r.2)) = true ∧ Nrm r.1 ∧ Nrm r.2) := by
  obtain ⟨a1, a2, a3, a4, a5⟩ := sx_ok ha
  obtain ⟨b1, b2, b3, b4, b5⟩ := sx_ok hb
  have hms : ∀ m ∈ [(0, 1), (1, 1)] ++ a.moms ++ b.moms, Nrm m ∧ 0 ≤ vl m ∧ vl m ≤ 1 := fun m hm => by
    rcases List.mem_append.mp hm with hm | hm
    · rcases List.mem_append.mp hm with hm | hm
      · rcases List.mem_cons.mp hm with rfl | hm
        · exact ⟨nrm_zero, by rw [vl_zero]; grind, by rw [vl_zero]; grind⟩
        · obtain rfl := List.mem_singleton.mp hm
          exact ⟨nrm_unit, by rw [vl_one]; grind, by rw [vl_one]; grind⟩
      · exact a2 m hm
    · exact b2 m hm
  unfold sweepM
  by_cases c : (a.out || b.out) = true
  · rw [if_pos c]
    refine ⟨?_, fun r h => by cases h⟩
    obtain ⟨sa, sm⟩ := sort_ok (xs := [(0, 1), (1, 1)] ++ a.moms ++ b.moms) fun y hy => (hms y hy).1
    have hn : ∀ m ∈ sortF ([(0, 1), (1, 1)] ++ a.moms ++ b.moms), Nrm m := fun m hm => (hms m ((sm m).mp hm)).1
    generalize sortF ([(0, 1), (1, 1)] ++ a.moms ++ b.moms) = ss at *
    have e : inK ss (fun t => a.inside t && b.inside t) = [] := by
      rw [List.eq_nil_iff_forall_not_mem]
      intro k hk
      unfold inK at hk
      rw [List.mem_filter, List.mem_range] at hk
      obtain ⟨h1, h2⟩ := hk
      have nm := mid_nrm (hn _ (getD_mem (show k < ss.length by omega))) (hn _ (getD_mem (show k + 1 < ss.length by omega)))
      rw [Bool.and_eq_true] at h2
      rcases Bool.or_eq_true _ _ |>.mp c with o | o
      · rw [out_never ha o nm] at h2
        cases h2.1
      · rw [out_never hb o nm] at h2
        cases h2.2
    unfold dueK
    rw [e]
    rfl
  · have c := Bool.eq_false_iff.mpr c
    rw [c, if_neg (by decide)]
    obtain ⟨oa, ob⟩ := Bool.or_eq_false_iff.mp c
    refine gaps_due (fun s hs => ?_) hms (List.mem_append_left _ (List.mem_append_left _ List.mem_cons_self)) (List.mem_append_left _ (List.mem_append_left _ (List.mem_cons_of_mem _ List.mem_cons_self))) (fun t ht => ?_) (fun s hs h1 h2 => ?_) (fun s hs h1 h2 => ?_)
    · rcases List.mem_append.mp hs with hs | hs
      · exact a1 s hs
      · exact b1 s hs
    · rw [Bool.and_eq_true, a3 oa t ht, b3 ob t ht]
      constructor
      · rintro ⟨z1, z2⟩ s hs
        rcases List.mem_append.mp hs with hs | hs
        · exact z1 s hs
        · exact z2 s hs
      · intro z
        exact ⟨fun s hs => z s (List.mem_append_left _ hs), fun s hs => z s (List.mem_append_right _ hs)⟩
    · rcases List.mem_append.mp hs with hs | hs
      · exact List.mem_append_left _ (List.mem_append_right _ (a4 s hs h1 h2))
      · exact List.mem_append_right _ (b4 s hs h1 h2)
    · rcases List.mem_append.mp hs with hs | hs
      · exact List.mem_append_left _ (List.mem_append_right _ (a5 s hs h1 h2))
      · exact List.mem_append_right _ (b5 s hs h1 h2)
/-- the two boxes exchanged -/
def Sx.swap (a : Sx) : Sx := ⟨a.lb, a.sb, a.vb, a.la, a.sa, a.va⟩
theorem Sx.Ok.swap {a : Sx} (ha : a.Ok) : a.swap.Ok := ⟨ha.lb, ha.sb, ha.vb, ha.la, ha.sa, ha.va⟩
theorem swap_same {a : Sx} (ha : a.Ok) : a.swap.out = a.out ∧ a.swap.spans = a.spans := by
  have hs := ha.swap
  have ew : vl a.swap.w = -vl a.w := by
    rw [ha.vw, hs.vw]
    show vl a.va - vl a.vb = _
    grind
  have el : vl a.swap.lo = -vl a.hi := by
    rw [ha.vhi, hs.vlo]
    show vl a.lb - (vl a.la + vl a.sa) = _
    grind
  have eh : vl a.swap.hi = -vl a.lo := by
    rw [ha.vlo, hs.vhi]
    show vl a.lb + vl a.sb - vl a.la = _
    grind
  have z1 := zero_iff ha.nw.1
  have z2 := zero_iff hs.nw.1
  have zz : a.swap.w.1 = 0 ↔ a.w.1 = 0 := by
    rw [z1, z2, ew]
    constructor <;> intro z <;> grind
  constructor
  · unfold Sx.out
    have k1 : decide (0 ≤ a.swap.lo.1) = decide (a.hi.1 ≤ 0) := by
      rw [decide_eq_decide, nneg_iff hs.nlo.1, npos_iff ha.nhi.1, el]
      constructor <;> intro z <;> grind
    have k2 : decide (a.swap.hi.1 ≤ 0) = decide (0 ≤ a.lo.1) := by
      rw [decide_eq_decide, npos_iff hs.nhi.1, nneg_iff ha.nlo.1, eh]
      constructor <;> intro z <;> grind
    have k3 : (a.swap.w.1 == 0) = (a.w.1 == 0) := by
      rw [Bool.eq_iff_iff, beq_iff_eq, beq_iff_eq]
      exact zz
    rw [k1, k2, k3, Bool.or_comm]
  · unfold Sx.spans
    by_cases c : a.w.1 = 0
    · rw [if_pos c, if_pos (zz.mpr c)]
    · have c' : ¬ a.swap.w.1 = 0 := fun z => c (zz.mp z)
      rw [if_neg c, if_neg c']
      have p1 := vl_pos ha.nw.1
      have p2 := vl_pos hs.nw.1
      have wne : vl a.w ≠ 0 := fun z => c (z1.mpr z)
      have e1 : overM a.swap.hi a.swap.w = overM a.lo a.w := vl_inj (over_nrm hs.nhi hs.nw c') (over_nrm ha.nlo ha.nw c) (by
        rw [vl_over hs.nhi hs.nw c', vl_over ha.nlo ha.nw c, eh, ew, ← div_neg_neg wne])
      have e2 : overM a.swap.lo a.swap.w = overM a.hi a.w := vl_inj (over_nrm hs.nlo hs.nw c') (over_nrm ha.nhi ha.nw c) (by
        rw [vl_over hs.nlo hs.nw c', vl_over ha.nhi ha.nw c, el, ew, ← div_neg_neg wne])
      unfold Sx.span
      by_cases d : 0 < a.w.1
      · have d' : ¬ 0 < a.swap.w.1 := fun z => by
          have := p2.mpr z
          have := p1.mpr d
          grind
        rw [if_pos d, if_neg d', e1, e2]
      · have d' : 0 < a.swap.w.1 := p2.mp (by
          have : ¬ 0 < vl a.w := fun z => d (p1.mp z)
          rw [ew]
          grind)
        rw [if_neg d, if_pos d', e1, e2]
theorem sweep_swap {a b : Sx} (ha : a.Ok) (hb : b.Ok) : sweepM a.swap b.swap = sweepM a b := by
  unfold sweepM
  rw [(swap_same ha).1, (swap_same hb).1, (swap_same ha).2, (swap_same hb).2]
end FR

set_option maxHeartbeats 1000000
/-! generator expressions whose elements call defs: all(..), any(..) of them -/
namespace GX
open PySem PySem.Spec PyProof.Rows L2 GenW GxR

theorem over_gl {A : Around} {elt : Expr} {gs : List Comprehension} {sc : Scope} {p : Pos} {it acc : Value} {env : Env} :
    A.over (.compLoop (.GeneratorExp elt gs sc p) 0 it acc env) [] = A.deeper env := by
  first
    | rfl
    | (obtain ⟨hd, d, fr, gs, u⟩ := A; simp [Around.over, Around.deeper, marksOver, frameCount, unitsOf, envsOf, guardsOf, pushEnvs, pushGuards, Code.envs, Code.env?, Code.isFrame, Code.guards, Code.isGuard, Code.weight, Code.frames, Code.isCreation, Code.isCaller, Code.cUnits])
theorem over_gs {A : Around} {elt : Expr} {gs : List Comprehension} {sc : Scope} {p : Pos} {it acc : Value} {env : Env} :
    A.over (.compStart (.GeneratorExp elt gs sc p) 0 it acc env) [] = A.deeper env := by
  first
    | rfl
    | (obtain ⟨hd, d, fr, gs, u⟩ := A; simp [Around.over, Around.deeper, marksOver, frameCount, unitsOf, envsOf, guardsOf, pushEnvs, pushGuards, Code.envs, Code.env?, Code.isFrame, Code.guards, Code.isGuard, Code.weight, Code.frames, Code.isCreation, Code.isCaller, Code.cUnits])

/-- the frame of a generator expression within X's def: made at s with the heap H, the walked thing's own objects at fp, run at B -/
def gcx (X : Cx) (B : Around) (s : Shared) (H : Hp) (ge : Env) (fp : List Addr) : Cx where
  prog := X.prog
  w := X.w
  K := X.K
  mg := X.mg
  base := X.base
  A := B
  N := X.N
  s_0 := s
  H_0 := H
  env := ge
  outer := X.stack
  stack := ge :: X.stack
  ex := fp
  fn := fun _ => false
  calm := true
  pn := []
  xe := fun _ _ => False

/-- the environment of that frame -/
abbrev gev (X : Cx) (scope : Scope) (C : Addr) (code : Value) : Env := genEnv scope (cloFrom X.env.cells scope.names []) C code builtinsNs X.env

section
variable {X : Cx} {pins : List (Addr × Obj)} {σ : L2.St} {H : Hp} {s : Shared}
theorem start_ok {scope : Scope} {own : List (Str × Nat)} {fp : List Addr} {B : Around} {code : Value} {h' : Heap} {g' : Array GenState} {t' : Nat} {m : Str → Option Value}
    (I : Inv X pins σ H s) (ok : BlkOk X.N X.env.scope scope own) (nc : ∀ y ∈ scope.names, y.2 ≠ .cell) (hN : X.N.Nodup) (hfp : ∀ b ∈ fp, FpOk X pins H b ∧ b < s.heap.objs.size)
    (hd : B.handled = none) (hF : B.frames = some (gev X scope s.heap.objs.size code :: X.stack)) (hns : h'.Ns s.heap.objs.size m)
    (kp : ∀ b o, s.heap.get? b = some o → h'.get? b = some o) (hg : AllBare g') :
    Inv (gcx X B s H (gev X scope s.heap.objs.size code) fp) [] (wipe σ (own.map (·.2))) H { s with heap := h', gens := g', toks := t' } := by
  have fr : ∀ y ∈ scope.names, y.2 = .free → ∃ c, X.env.cells.lookup y.1 = some c := fun y hy e => (ok.free y hy e).elim (fun k => I.ok.has _ (.inl k)) fun k => I.ok.has _ (.inr k)
  have cm : ∀ {y : Str} {c : Addr}, (y, c) ∈ cloFrom X.env.cells scope.names [] → X.env.cells.lookup y = some c ∧ c < s.heap.objs.size := by
    intro y c hm
    rcases cloFrom_mem hm with z | ⟨z, rfl⟩
    · cases z
    · obtain ⟨c, hc⟩ := fr _ z rfl
      obtain ⟨w, k⟩ := I.cell _ _ hc
      rw [hc]
      exact ⟨rfl, k.lt⟩
  have cl : ∀ {y : Str} {c : Addr}, (gev X scope s.heap.objs.size code).cells.lookup y = some c → X.env.cells.lookup y = some c ∧ c < s.heap.objs.size := fun e => cm (PySem.mem_of_lookup e)
  have kd : ∀ {y : Str} {k : NameKind}, (gev X scope s.heap.objs.size code).kindOf y = some k → (y, k) ∈ scope.names := fun e => PySem.mem_of_lookup e
  have kcell : ∀ {y : Str}, (gev X scope s.heap.objs.size code).kindOf y ≠ some .cell := fun {y} e => nc _ (kd e) rfl
  have has : ∀ {y : Str}, (gev X scope s.heap.objs.size code).kindOf y = some .free → ∃ c, (gev X scope s.heap.objs.size code).cells.lookup y = some c := fun {y} e => mem_lookup (cloFrom_has (cells := X.env.cells) (acc := []) (kd e))
  have okG : (gcx X B s H (gev X scope s.heap.objs.size code) fp).Ok := {
    mod := I.ok.mod
    kind := ok.kind
    glob := I.ok.glob
    blt := rfl
    above := Nat.le_refl _
    inj := fun y z c e1 e2 => I.ok.inj y z c (cl e1).1 (cl e2).1
    has := fun y hy => hy.elim (fun k => (kcell k).elim) fun k => has k
    cab := fun y c z _ => by cases (show false = true from z)
    hd := fun _ => hd
    frames := hF
    stk := .inr ⟨rfl, rfl⟩
    exf := fun b hb => ⟨Nat.ne_of_lt (hfp b hb).2, fun y c e z => (hfp b hb).1.2.2.2.2.1 y c (cl e).1 z⟩
    bs := I.bs
    bsz := Nat.le_trans I.ok.bsz I.sz
    noex := fun b o e hb => by
      rcases (hfp b hb).1.2.2.2.1 with z | z
      · exact I.ok.noex b o e z
      · exact Nat.lt_irrefl _ (Nat.lt_of_lt_of_le (Heap.lt_size e) (Nat.le_trans I.ok.bsz z))
    exfs := fun b hb z => (List.mem_cons.mp (I.stkSub b z)).elim (hfp b hb).1.2.1 (hfp b hb).1.2.2.1
    funs := I.stack
    frf := I.stkFree }
  refine {
    ok := okG
    os := rfl
    bare := hg
    base := Un.kept kp
    loc := ⟨m, hns, fun i y v e1 e2 e3 => ?_⟩
    cell := fun y c e => (I.cell y c (cl e).1).imp fun w k => k.keeps kp
    free := I.hok.fresh (Nat.le_refl _)
    freeC := fun y c e => I.freeC y c (cl e).1
    pin := fun p hp => absurd (show p ∈ ([] : List (Addr × Obj)) ++ [] from hp) (by simp)
    hok := I.hok.kept kp
    len := (wipe_length _ _).trans I.len }
  obtain ⟨e2, hne⟩ := wipe_some e2
  have nown : ¬ ((y, NameKind.local) ∈ scope.names) := fun hy => by
    rcases ok.own _ hy (.inl rfl) with z | z
    · obtain ⟨p, hp, hpy⟩ := List.mem_map.mp z
      have e4 := ok.ix p hp
      rw [show p.1 = y from hpy] at e4
      exact hne (List.mem_map.mpr ⟨p, hp, nodup_ix hN e4 e1⟩)
    · exact z (List.mem_of_getElem? e1)
  have hv : (gev X scope s.heap.objs.size code).kindOf y = some .free := by
    rcases e3 with k | k | k
    · exact (nown (kd k)).elim
    · exact (kcell k).elim
    · exact k
  obtain ⟨m0, _, hl⟩ := I.loc
  have hvX : Vis X.env.scope y := (ok.free _ (kd hv) rfl).elim (fun k => .inr (.inl k)) fun k => .inr (.inr k)
  obtain ⟨u, r, q⟩ := hl i y v e1 e2 hvX
  obtain ⟨c, hc⟩ := has hv
  refine ⟨u, r, .inr ⟨.inr hv, c, hc, ?_⟩⟩
  rcases q with ⟨k, _⟩ | ⟨_, c', e', z⟩
  · have k' : X.env.scope.names.lookup y = some .local := k
    rcases ok.free _ (kd hv) rfl with z | z <;> rw [show X.env.scope.names.lookup y = _ from z] at k' <;> cases k'
  · rw [(cl hc).1] at e'
    cases e'
    exact z.keeps kp
/-- other generators, other tokens: the heap is what counts -/
theorem inv_heap {s' : Shared} (I : Inv X pins σ H s) (hh : s'.heap = s.heap) (ho : s'.os = s.os) (hg : AllBare s'.gens) : Inv X pins σ H s' :=
  { ok := I.ok, os := ho.trans I.os, bare := hg, base := by rw [hh]; exact I.base, loc := by rw [hh]; exact I.loc, cell := by rw [hh]; exact I.cell, free := I.free, freeC := I.freeC, pin := by rw [hh]; exact I.pin, hok := by rw [hh]; exact I.hok, len := I.len }
end

/-! ### the walk within the generator -/
/-- what is told of the elements: the word W by turn and measure; a test that is pol goes on, any other ends it -/
structure Word (J : It) (g : TG) (tt : TT) (te : TE) (vs : List Nat) (τ : L2.St) (pol : Bool) (Dn Et : Hp → Prop) (W : Nat → Nat → Hp → Prop) : Prop where
  turn : ∀ i m H, W i m H → (J.stop i H ∧ Dn H) ∨ (J.go i H ∧ ∃ Nx : Hp → Prop, (∀ H', Nx H' → ∃ m', m' < m ∧ W (i + 1) m' H') ∧ ∀ x H', J.yld i H x H' → g x τ H' fun σ2 H2 => wipe σ2 vs = τ ∧ tt σ2 H2 fun b H3 =>
    if b = true then te σ2 H3 fun y H4 => ∃ r : Bool, y = .bl r ∧ (if r = pol then Nx H4 else Et H4) else Nx H3)
/-- it has come to its end -/
def EndR (X : Cx) (pins : List (Addr × Obj)) (τ : L2.St) (Dn : Hp → Prop) : GenEnd := fun _ _ r s => r = .ok .next ∧ ∃ H, Inv X pins τ H s ∧ Dn H
/-- it hands out a test; woken again where the test is pol -/
def OutY (X : Cx) (pins : List (Addr × Obj)) (τ : L2.St) (pol : Bool) (Et : Hp → Prop) : Protocol := fun _ _ v s kap =>
  ∃ (r : Bool) (H : Hp), v = .bool r ∧ Inv X pins τ H s ∧ ((r ≠ pol ∧ Et H) ∨ (r = pol ∧ ∀ s' : Shared, s'.heap = s.heap → s'.os = s.os → AllBare s'.gens → kap (.send .none) s'))

section
variable {X : Cx} {A : Around} {elt tg iter : Expr} {ifs : List Expr} {scope : Scope} {pos : Pos} {it : Addr} {J : It} {fp : List Addr} {tn : Nat → Heap → Prop} {g : TG} {tt : TT} {te : TE} {vs : List Nat} {τ : L2.St} {pol : Bool} {Dn Et : Hp → Prop} {W : Nat → Nat → Hp → Prop} {pins : List (Addr × Obj)}
theorem walk_seg (hov : A.over (.compLoop (.GeneratorExp elt [⟨tg, iter, ifs, 0⟩] scope pos) 0 (.ref it) .none X.env) [] = X.A) (hxe : X.xe = fun _ _ => False) (hco : X.env.scope.isCoroutine = false) (hc : X.calm = true)
    (T : Turn X.prog X.w X.K tg J fp it tn) (hfp : ∀ b ∈ fp, b ≠ X.env.locals ∧ b ∉ X.fs ∧ (b ∈ X.ex ∨ X.s_0.heap.objs.size ≤ b) ∧ (∀ x c, X.env.cells.lookup x = some c → c ≠ b) ∧ ∀ p ∈ X.pn ++ pins, p.1 ≠ b)
    (pg : PG X tg g) (pt : PTs X ifs tt) (pe : PE X elt te) (hl : ∀ σ : L2.St, wipe σ vs = τ → σ.length = τ.length ∧ ∀ (j : Nat) v, τ[j]? = some (some v) → σ[j]? = some (some v)) (V : Word J g tt te vs τ pol Dn Et W) :
    ∀ (m n i : Nat) (s₀ s : Shared) (H : Hp), m < n → Inv X pins τ H s → tn i s.heap → (∀ b ∈ fp, H b = none) → W i m H →
      Seg (model X.prog X.w) A (EndR X pins τ Dn) (OutY X pins τ pol Et) n s₀ (.compLoop (.GeneratorExp elt [⟨tg, iter, ifs, 0⟩] scope pos) 0 (.ref it) .none X.env)
        ((model X.prog X.w).den (.compLoop (.GeneratorExp elt [⟨tg, iter, ifs, 0⟩] scope pos) 0 (.ref it) .none X.env)) [] s := by
  intro m
  induction m using Nat.strongRecOn with
  | ind m ih =>
    intro n i s₀ s H hmn I st fr w
    have stat : ∀ {H' : Hp}, (∀ b ∈ fp, H' b = none) → ∀ b ∈ fp, FpOk X pins H' b := fun hn b hb => ⟨hn b hb, (hfp b hb).1, (hfp b hb).2.1, (hfp b hb).2.2.1, (hfp b hb).2.2.2.1, (hfp b hb).2.2.2.2⟩
    have nof : ∀ x s', X.xe x s' → False := fun x s' z => by
      rw [hxe] at z
      exact z
    show Seg _ A _ _ _ s₀ _ ((compTurn (.GeneratorExp elt [⟨tg, iter, ifs, 0⟩] scope pos) 0 (.ref it) .none X.env).onRaise (leaving X.env)) [] s
    rw [compTurn_gen, Sem.onRaise_eq_wrap]
    refine seg_bind_wrap (wpAny_standAt ?_)
    refine seg_bind_wrap ?_
    rw [hov]
    rcases V.turn i m H w with ⟨stop, dn⟩ | ⟨go, Nx, hNx, step⟩
    · refine thn (T.done X rfl rfl rfl hc i pins s τ H _ I (stat fr) st stop) fun r s1 ⟨hr, I1⟩ => ?_
      subst hr
      exact seg_end (.ok .next) ⟨rfl, H, I1, dn⟩
    · refine thn (T.item X rfl rfl rfl hc i pins s τ H _ I (stat fr) st go) fun r s1 ⟨u, hr, h1⟩ => ?_
      subst hr
      refine seg_bind_wrap ?_
      rw [hov]
      refine wpAny_mono h1 (fun _ s2 ⟨x, H2, I2, r2, y2, st2, fr2⟩ => ?_) fun _ _ e => e
      have J2 := I2.pinned (stat fr2) (T.obj _ _ st2)
      -- what stays of the walked thing's objects while the element runs
      have back : ∀ {s' : Shared} {σ' : L2.St} {H' : Hp}, Inv X (pins ++ pinsAt fp s2.heap) σ' H' s' → wipe σ' vs = τ → Inv X pins τ H' s' ∧ tn (i + 1) s'.heap ∧ ∀ b ∈ fp, H' b = none := fun {s' σ' H'} K hw => by
        have kept : ∀ b ∈ fp, ∀ o, s2.heap.get? b = some o → s'.heap.get? b = some o ∧ H' b = none := fun b hb o e =>
          ⟨(K.pin (b, o) (List.mem_append_right _ (List.mem_append_right _ (mem_pinsAt hb e)))).1, (K.pin (b, o) (List.mem_append_right _ (List.mem_append_right _ (mem_pinsAt hb e)))).2.1⟩
        refine ⟨K.unpinned.weak (hl σ' hw).1.symm (hl σ' hw).2, T.keep _ _ _ st2 fun b hb o e => (kept b hb o e).1, fun b hb => ?_⟩
        obtain ⟨o, e, _⟩ := T.obj _ _ st2 b hb
        exact (kept b hb o e).2
      refine seg_bind_wrap ?_
      rw [hov]
      refine wpAny_mono (pg.run _ s2 τ H2 x u _ J2 r2 (step x H2 y2)) (fun _ s3 ⟨σ3, H3, I3, hw, q3⟩ => ?_) fun x s' z => (nof x s' z).elim
      refine seg_bind_wrap ?_
      rw [hov]
      refine wpAny_mono (pt.run _ s3 σ3 H3 _ I3 q3) (fun b s4 ⟨H4, I4, q4⟩ => ?_) fun x s' z => (nof x s' z).elim
      cases b with
      | false =>
        obtain ⟨I5, st5, fr5⟩ := back I4 hw
        obtain ⟨m', hm, w'⟩ := hNx H4 q4
        simp only [Bool.false_eq_true, if_false]
        exact seg_again rfl (ih m' hm n (i + 1) s₀ s4 H4 (by omega) I5 st5 fr5 w')
      | true =>
        simp only [if_true]
        have hy : ∀ v, yieldOut X.env v = yieldValue v := fun v => by
          unfold yieldOut
          rw [hco]
          rfl
        simp only [hy]
        rw [Sem.bind_eq_wrap', Sem.bind_eq_wrap', Sem.wrap_wrap, Sem.wrap_wrap]
        refine seg_wrap ?_
        rw [hov]
        refine wpAny_mono (pe.run _ s4 σ3 H4 _ I4 q4) (fun v s5 ⟨y, H5, I5, rv, r, ey, q5⟩ => ?_) fun x s' z => (nof x s' z).elim
        subst ey
        have ev : v = .bool r := rv
        obtain ⟨I6, st6, fr6⟩ := back I5 hw
        obtain ⟨n', rfl⟩ : ∃ n', n = n' + 1 := ⟨n - 1, by omega⟩
        refine seg_at (seg_yield rfl rfl rfl ⟨r, H5, ev, I6, ?_⟩)
        by_cases hr : r = pol
        · rw [if_pos hr] at q5
          refine .inr ⟨hr, fun s' hh ho hg => ?_⟩
          obtain ⟨m', hm, w'⟩ := hNx H5 q5
          exact seg_again rfl (ih m' hm n' (i + 1) s' s' H5 (by omega) (inv_heap I6 hh ho hg) (by rw [hh]; exact st6) fr6 w')
        · rw [if_neg hr] at q5
          exact .inl ⟨hr, q5⟩
theorem walk_from (hov : A.over (.compLoop (.GeneratorExp elt [⟨tg, iter, ifs, 0⟩] scope pos) 0 (.ref it) .none X.env) [] = X.A) (hxe : X.xe = fun _ _ => False) (hco : X.env.scope.isCoroutine = false) (hc : X.calm = true)
    (T : Turn X.prog X.w X.K tg J fp it tn) (hfp : ∀ b ∈ fp, b ≠ X.env.locals ∧ b ∉ X.fs ∧ (b ∈ X.ex ∨ X.s_0.heap.objs.size ≤ b) ∧ (∀ x c, X.env.cells.lookup x = some c → c ≠ b) ∧ ∀ p ∈ X.pn ++ pins, p.1 ≠ b)
    (pg : PG X tg g) (pt : PTs X ifs tt) (pe : PE X elt te) (hl : ∀ σ : L2.St, wipe σ vs = τ → σ.length = τ.length ∧ ∀ (j : Nat) v, τ[j]? = some (some v) → σ[j]? = some (some v)) (V : Word J g tt te vs τ pol Dn Et W)
    {m n : Nat} {s₀ s : Shared} {H : Hp} (hmn : m < n) (I : Inv X pins τ H s) (st : tn 0 s.heap) (fr : ∀ b ∈ fp, H b = none) (w : W 0 m H) :
      Seg (model X.prog X.w) A (EndR X pins τ Dn) (OutY X pins τ pol Et) n s₀ (.compStart (.GeneratorExp elt [⟨tg, iter, ifs, 0⟩] scope pos) 0 (.ref it) .none X.env)
        ((model X.prog X.w).den (.compStart (.GeneratorExp elt [⟨tg, iter, ifs, 0⟩] scope pos) 0 (.ref it) .none X.env)) [] s := by
  have go := walk_seg hov hxe hco hc T hfp pg pt pe hl V m n 0 s₀ s H hmn I st fr w
  show Seg _ A _ _ _ s₀ _ ((compStart (.GeneratorExp elt [⟨tg, iter, ifs, 0⟩] scope pos) 0 (.ref it) .none X.env).onRaise (leaving X.env)) [] s
  unfold compStart
  rw [Sem.onRaise_eq_wrap]
  show Seg _ A _ _ _ s₀ _ ((ask >>= _).wrap _ _ _ _) [] s
  refine seg_bind_wrap (wpAny_askSetting ?_)
  split
  · exact seg_again rfl go
  · refine seg_bind_wrap (wpAny_rule ?_)
    show Seg _ A _ _ _ s₀ _ ((standAt iter.pos >>= _).wrap _ _ _ _) [] s
    exact seg_bind_wrap (wpAny_standAt (seg_bind_wrap (T.self _ 0 s _ _ st (seg_again rfl go))))

/-! ### the consumers -/
/-- the generator at a may be woken: Seg's number n -/
def Awake (X : Cx) (B : Around) (a : Addr) (go : Obj) (gn : Nat) (τ : L2.St) (pol : Bool) (Dn Et : Hp → Prop) (n : Nat) (s : Shared) : Prop :=
  ∃ gs, s.gens[gn]? = some gs ∧ (∃ H, Inv X [(a, go)] τ H s) ∧ gs.Goes (model X.prog X.w) B (EndR X [(a, go)] τ Dn) (OutY X [(a, go)] τ pol Et) n (.send .none) (s.setGen gn .running)
variable {B : Around} {a : Addr} {go : Obj} {gn : Nat}
/-- the next item -/
theorem next_run {Q : Option Value → Shared → Prop} {E : Value → Shared → Prop} {n : Nat} {s : Shared} (hd : B.handled = none) (hr : B.depth < recursionLimit) (hgo : ∀ h : Heap, h.get? a = some go → h.IsGen a gn)
    (h : Awake X B.in1 a go gn τ pol Dn Et n s) (hDn : ∀ s' H, Inv X [(a, go)] τ H s' → Dn H → Q none s')
    (hEt : ∀ s' H, Inv X [(a, go)] τ H s' → Et H → Q (some (.bool (!pol))) s') (hNx : ∀ s' m, n = m + 1 → Awake X B.in1 a go gn τ pol Dn Et m s' → Q (some (.bool pol)) s') :
    wpAny (model X.prog X.w) B (pyNext (.ref a)) Q E s := by
  obtain ⟨gs, hgs, ⟨H0, I0⟩, hg⟩ := h
  have hlt : gn < s.gens.size := (Array.getElem?_eq_some_iff.mp hgs).1
  have isg := hgo _ (I0.pin (a, go) (List.mem_append_right _ (List.mem_singleton.mpr rfl))).1
  refine wpAny_gsz (n := gn + 1) hlt (wpAny_pyNext_genexpQ (P := fun _ _ s1 => ∃ H, Inv X [(a, go)] τ H s1 ∧ Dn H) hd I0.nolimit hr isg hgs hg (fun v s1 gs' hb hv hsz => ?_) fun s1 hp h' hk hsz => ?_)
  · obtain ⟨r, H, rfl, I, q⟩ := hv
    have I' : Inv X [(a, go)] τ H (s1.setGen gn gs') := inv_heap I rfl rfl (allBare_setGen I.bare hb)
    rcases q with ⟨hr, he⟩ | ⟨hr, hk⟩
    · have e : r = !pol := by
        cases r <;> cases pol <;> first | rfl | exact (hr rfl).elim
      rw [e]
      exact hEt _ H I' he
    · subst hr
      have hs1 : gn < s1.gens.size := by
        have z : (s1.setGen gn gs').gens.size = s1.gens.size := setGen_size _ _ _
        have z2 : gn + 1 ≤ (s1.setGen gn gs').gens.size := hsz
        omega
      have k := hk ((s1.setGen gn gs').setGen gn .running) rfl rfl (allBare_setGen I'.bare rfl)
      cases n with
      | zero => exact False.elim k
      | succ m => exact hNx _ m rfl ⟨gs', setGen_at hs1, ⟨H, I'⟩, k⟩
  · obtain ⟨H, I, dn⟩ := hp
    exact hDn _ H (Inv.kept (t' := s1.toks) (inv_heap (s' := s1.setGen gn .finished) I rfl rfl (allBare_setGen I.bare rfl)) hk) dn
theorem all_run {R : Result → Shared → Prop} (hd : B.handled = none) (hr : B.depth < recursionLimit) (hgo : ∀ h : Heap, h.get? a = some go → h.IsGen a gn)
    (hDn : ∀ s' H, Inv X [(a, go)] τ H s' → Dn H → R (.ok (.ret (.bool true))) s') (hEt : ∀ s' H, Inv X [(a, go)] τ H s' → Et H → R (.ok (.ret (.bool false))) s') :
    ∀ (n : Nat) (s : Shared), Awake X B.in1.in1 a go gn τ true Dn Et n s → codeAny (model X.prog X.w) B (.builtin "all.loop" ⟨[.ref a], []⟩) R s := by
  intro n
  induction n with
  | zero =>
    intro s h
    refine codeAny_builtin F.entry_all_loop ?_
    rw [Around.under_plainId F.plain_all_loop _]
    show wpAny _ B.in1 (pyNext (.ref a) >>= _) _ _ s
    refine wpAny_bind (next_run hd hr hgo h (fun s1 H I dn => wpAny_bind (wpAny_rule (wpAny_pure (hDn s1 H I dn)))) (fun s1 H I et => ?_) fun s1 m e _ => by cases e)
    refine wpAny_bind (wpAny_holding (wpAny_truthy_bool (wpAny_bind (wpAny_letGo ?_))))
    exact wpAny_bind (wpAny_rule (wpAny_pure (hEt s1 H I et)))
  | succ n ih =>
    intro s h
    refine codeAny_builtin F.entry_all_loop ?_
    rw [Around.under_plainId F.plain_all_loop _]
    show wpAny _ B.in1 (pyNext (.ref a) >>= _) _ _ s
    refine wpAny_bind (next_run hd hr hgo h (fun s1 H I dn => wpAny_bind (wpAny_rule (wpAny_pure (hDn s1 H I dn)))) (fun s1 H I et => ?_) fun s1 m e aw => ?_)
    · refine wpAny_bind (wpAny_holding (wpAny_truthy_bool (wpAny_bind (wpAny_letGo ?_))))
      exact wpAny_bind (wpAny_rule (wpAny_pure (hEt s1 H I et)))
    · cases e
      refine wpAny_bind (wpAny_holding (wpAny_truthy_bool (wpAny_bind (wpAny_letGo ?_))))
      exact wpAny_pure ⟨plainId_quiet F.plain_all_loop _, ih s1 aw⟩
theorem any_run {R : Result → Shared → Prop} (hd : B.handled = none) (hr : B.depth < recursionLimit) (hgo : ∀ h : Heap, h.get? a = some go → h.IsGen a gn)
    (hDn : ∀ s' H, Inv X [(a, go)] τ H s' → Dn H → R (.ok (.ret (.bool false))) s') (hEt : ∀ s' H, Inv X [(a, go)] τ H s' → Et H → R (.ok (.ret (.bool true))) s') :
    ∀ (n : Nat) (s : Shared), Awake X B.in1.in1 a go gn τ false Dn Et n s → codeAny (model X.prog X.w) B (.builtin "any.loop" ⟨[.ref a], []⟩) R s := by
  intro n
  induction n with
  | zero =>
    intro s h
    refine codeAny_builtin F.entry_any_loop ?_
    rw [Around.under_plainId F.plain_any_loop _]
    show wpAny _ B.in1 (pyNext (.ref a) >>= _) _ _ s
    refine wpAny_bind (next_run hd hr hgo h (fun s1 H I dn => wpAny_bind (wpAny_rule (wpAny_pure (hDn s1 H I dn)))) (fun s1 H I et => ?_) fun s1 m e _ => by cases e)
    refine wpAny_bind (wpAny_holding (wpAny_truthy_bool (wpAny_bind (wpAny_letGo ?_))))
    exact wpAny_bind (wpAny_rule (wpAny_pure (hEt s1 H I et)))
  | succ n ih =>
    intro s h
    refine codeAny_builtin F.entry_any_loop ?_
    rw [Around.under_plainId F.plain_any_loop _]
    show wpAny _ B.in1 (pyNext (.ref a) >>= _) _ _ s
    refine wpAny_bind (next_run hd hr hgo h (fun s1 H I dn => wpAny_bind (wpAny_rule (wpAny_pure (hDn s1 H I dn)))) (fun s1 H I et => ?_) fun s1 m e aw => ?_)
    · refine wpAny_bind (wpAny_holding (wpAny_truthy_bool (wpAny_bind (wpAny_letGo ?_))))
      exact wpAny_bind (wpAny_rule (wpAny_pure (hEt s1 H I et)))
    · cases e
      refine wpAny_bind (wpAny_holding (wpAny_truthy_bool (wpAny_bind (wpAny_letGo ?_))))
      exact wpAny_pure ⟨plainId_quiet F.plain_any_loop _, ih s1 aw⟩
end

/-! ### the rule -/
/-- the scope of a generator expression -/
structure GSc (scope : Scope) : Prop where
  co : scope.isCoroutine = false
  nc : ∀ y ∈ scope.names, y.2 ≠ .cell
  dot : scope.names.lookup (".0" : Str) = some NameKind.local
def tGen (pol : Bool) (P : Addr) (wi : TI) (g : TG) (tt : TT) (te : TE) (vs : List Nat) : TE := fun σ H Q => wi σ H fun J H1 => TabG H1 P ∧ ∀ H2, Tabbed P H1 H2 →
  ∃ W : Nat → Nat → Hp → Prop, (∃ m, W 0 m H2) ∧ Word J g tt te vs (wipe σ vs) pol (fun H' => Q (.bl pol) H') (fun H' => Q (.bl (!pol)) H') W
/-- a generator of X's frame is ready: what its end means for X -/
def Made (X : Cx) (pins : List (Addr × Obj)) (σ : L2.St) (pol : Bool) (Q : VK) (u : Value) (s : Shared) : Prop :=
  ∃ (Y : Cx) (a : Addr) (go : Obj) (gn n : Nat) (τ : L2.St) (Dn Et : Hp → Prop), u = .ref a ∧ Y.prog = X.prog ∧ Y.w = X.w ∧ (∀ h : Heap, h.get? a = some go → h.IsGen a gn) ∧ Awake Y X.A.in1.in1 a go gn τ pol Dn Et n s ∧ s.heap.IsGen a gn ∧
    (∀ s' H', Inv Y [(a, go)] τ H' s' → Dn H' → EP X pins σ Q (.bool pol) s') ∧ ∀ s' H', Inv Y [(a, go)] τ H' s' → Et H' → EP X pins σ Q (.bool (!pol)) s'
section
variable {X : Cx} {elt tg iter : Expr} {ifs : List Expr} {scope : Scope} {own : List (Str × Nat)} {gpos : Pos} {wi : TI} {g : TG} {tt : TT} {te : TE} {pol : Bool} {c P : Addr} {k : Nat}
theorem gen_core {pins : List (Addr × Obj)} {σ : L2.St} {H : Hp} {s : Shared} {Q : VK} (hr : Room (k + 1) X.A) (TB : TabB X.base X.mg c P) (hcode : X.env.code = .ref c) (ok : BlkOk X.N X.env.scope scope own) (S : GSc scope) (hN : X.N.Nodup) (hi : PI X tg iter wi)
    (hpg : ∀ B s H C code fp, Room k B → PG (gcx X B s H (gev X scope C code) fp) tg g) (hpt : ∀ B s H C code fp, Room k B → PTs (gcx X B s H (gev X scope C code) fp) ifs tt) (hpe : ∀ B s H C code fp, Room k B → PE (gcx X B s H (gev X scope C code) fp) elt te)
    (hs : ∀ v, genFold iter X.env v = pure v) (I : Inv X pins σ H s) (h : tGen pol P wi g tt te (own.map (·.2)) σ H Q) :
    wpAny (model X.prog X.w) X.A (eval (.GeneratorExp elt [⟨tg, iter, ifs, 0⟩] scope gpos) X.env) (Made X pins σ pol Q) X.xe s := by
  have fr : ∀ y ∈ scope.names, y.2 = .free → ∃ c, X.env.cells.lookup y.1 = some c := fun y hy e => (ok.free y hy e).elim (fun k => I.ok.has _ (.inl k)) fun k => I.ok.has _ (.inr k)
  refine wpAny_GeneratorExp_make S.co (closure_ok fr) S.nc S.dot ok.kind (by have := hr.dp; omega) ?_ hs
  refine thn (hi.run pins s σ H _ I h) fun v s1 h1 => thn h1 fun itv s2 h2 => ?_
  obtain ⟨it, fp, tn, J, H1, e, I1, T, st, f1, ⟨ps, hP, htri⟩, q⟩ := h2
  subst e
  refine ⟨I1.nolimit, ?_⟩
  have gP : s2.heap.get? P = some { cls := .none, data := .fields ps } := I1.hok P _ hP
  have hcd : PySem.W.CodeHd s2.heap c P := TB.code.keeps fun b u e => I1.bk b u e
  have key : ∀ (code : Value) (h3 : Heap) (tk : Nat) (more : Array Value), Heap.ExtBut P s2.heap h3 → s2.heap.objs.size ≤ h3.objs.size → h3.get? P = some { cls := .none, data := .fields (ps ++ more) } → TriplesOk (ps ++ more).toList →
      wpAny (model X.prog X.w) X.A (builtinsFor X.env.globals X.env.builtins) (fun bi s₄ =>
        ∀ h', h'.Ns s₄.heap.objs.size (fun y => if y = ".0" then some (.ref it) else none) → Heap.SameBut s₄.heap.objs.size (s₄.heap.push { cls := .type "frame", data := .dict #[] }) h' →
          Made X pins σ pol Q (.ref h'.objs.size) { s₄ with
            gens := s₄.gens.push (.fresh (.compStart (.GeneratorExp elt [⟨tg, iter, ifs, 0⟩] scope gpos) 0 (.ref it) .none (genEnv scope (cloFrom X.env.cells scope.names []) s₄.heap.objs.size code bi X.env))),
            toks := s₄.toks + 1 + 1 + 1,
            heap := h'.push { cls := .type "generator", data := .fields #[.int s₄.gens.size 0, .str "<genexpr>" (s₄.toks + 1), .str (X.env.qual ++ "<genexpr>") (s₄.toks + 1 + 1)] } }) X.xe { s2 with heap := h3, toks := tk } := by
    intro code h3 tk more hx hsz hP3 htri3
    obtain ⟨bm, ob, e1, e2, e3, e4, e5, e6, e7, e8⟩ := TB.bm
    have kp3 : ∀ b u, b ≠ P → s2.heap.get? b = some u → h3.get? b = some u := fun b u hb e => hx b u hb e
    refine wpAny_builtinsFor (m := X.mg) (by rw [I1.ok.glob]; exact (I1.mod.glob.keeps I1.bk).extBut hx TB.gP) e1 e2 (kp3 _ _ e4 (I1.bk _ _ e5)) e6 e7 e8 ?_
    intro h' hns hsb
    -- behind the code object, ahead of the frame
    have I3 : Inv X pins σ (upd H1 P (.tbl (ps ++ more))) { s2 with heap := h3, toks := tk } := inv_tab (g' := s2.gens) (d' := s2.drawn) I1 hP kp3 hP3 I1.bare
    have fnP : ∀ b ∈ fp, b ≠ P := fun b hb z => by
      have := (f1 b hb).1
      rw [z, hP] at this
      cases this
    have st3 : tn 0 h3 := T.keep _ _ _ st fun b hb o e => kp3 b o (fnP b hb) e
    have f3 : ∀ b ∈ fp, FpOk X pins (upd H1 P (.tbl (ps ++ more))) b ∧ b < h3.objs.size := fun b hb => by
      obtain ⟨o, e, _⟩ := T.obj _ _ st3 b hb
      exact ⟨⟨by rw [upd_ne (fnP b hb)]; exact (f1 b hb).1, (f1 b hb).2⟩, Heap.lt_size e⟩
    obtain ⟨W, ⟨m0, w0⟩, V⟩ := q (upd H1 P (.tbl (ps ++ more))) ⟨⟨ps ++ more, upd_same, htri3⟩, fun b hb => upd_ne hb⟩
    have sz' : h'.objs.size = h3.objs.size + 1 := by rw [hsb.1, Heap.size_push]
    have kp' : ∀ b o, h3.get? b = some o → h'.get? b = some o := fun b o e => hsb.extBut b o (Nat.ne_of_lt (Heap.lt_size e)) (Heap.get?_push_of_some _ e)
    generalize hgo : ({ cls := .type "generator", data := .fields #[.int s2.gens.size 0, .str "<genexpr>" (tk + 1), .str (X.env.qual ++ "<genexpr>") (tk + 1 + 1)] } : Obj) = go
    have isG : ∀ h : Heap, h.get? h'.objs.size = some go → h.IsGen h'.objs.size s2.gens.size := fun h e => ⟨go, _, _, e, by rw [← hgo], by rw [← hgo], by rw [← hgo]⟩
    have hB : Room k (X.A.in1.in1.deeper (gev X scope h3.objs.size code)) := ⟨hr.hd, by have := hr.dp; show X.A.depth + 1 + 3 * k + 5 < _; omega, by have := hr.un; show X.A.units + 1 + 1 + 3 + 16 * k + 200 < _; omega⟩
    have hF : (X.A.in1.in1.deeper (gev X scope h3.objs.size code)).frames = some (gev X scope h3.objs.size code :: X.stack) := Around.frames_deeper (by exact I1.ok.frames)
    have g5 : AllBare (s2.gens.push (.fresh (.compStart (.GeneratorExp elt [⟨tg, iter, ifs, 0⟩] scope gpos) 0 (.ref it) .none (gev X scope h3.objs.size code)))) := I1.bare.push rfl
    have Y0 := start_ok (t' := tk + 1 + 1 + 1) I3 ok S.nc hN f3 hB.hd hF hns kp' g5
    have gY := Heap.get?_push_size h' (o := go) (by rw [← hgo]; rfl)
    have Y1 := (Inv.kept (t' := tk + 1 + 1 + 1) (h' := h'.push go) Y0 fun b o e => Heap.get?_push_of_some _ e)
    have Y2 := Y1.pins_of (pins' := [(h'.objs.size, go)]) fun p hp => by
      rw [List.mem_singleton.mp hp]
      exact ⟨gY, Y0.hok.fresh (Nat.le_refl _), Nat.ne_of_gt Y0.lt, Y0.nofs (Nat.le_refl _), fun v z => by rw [← hgo] at z; cases z⟩
    have back : ∀ s' H', Inv (gcx X (X.A.in1.in1.deeper (gev X scope h3.objs.size code)) { s2 with heap := h3, toks := tk } (upd H1 P (.tbl (ps ++ more))) (gev X scope h3.objs.size code) fp) [(h'.objs.size, go)] (wipe σ (own.map (·.2))) H' s' → Inv X pins σ H' s' := fun s' H' K =>
      I3.call' (ch := fp) K.os K.base K.hok K.bare fun b hb => ⟨(f3 b hb).1.2.2.2.1, (f3 b hb).1.2.1, (f3 b hb).1.2.2.2.2.1, (f3 b hb).1.2.2.2.2.2⟩
    refine ⟨gcx X (X.A.in1.in1.deeper (gev X scope h3.objs.size code)) { s2 with heap := h3, toks := tk } (upd H1 P (.tbl (ps ++ more))) (gev X scope h3.objs.size code) fp, h'.objs.size, go, s2.gens.size, m0 + 1, wipe σ (own.map (·.2)), _, _, rfl, rfl, rfl, isG, ⟨.fresh (.compStart (.GeneratorExp elt [⟨tg, iter, ifs, 0⟩] scope gpos) 0 (.ref it) .none (gev X scope h3.objs.size code)), ?_, ⟨_, Y2⟩, rfl, ?_⟩, isG _ gY, fun s' H' K dn => ⟨.bl pol, H', back s' H' K, rfl, dn⟩, fun s' H' K et => ⟨.bl (!pol), H', back s' H' K, rfl, et⟩⟩
    · exact Array.getElem?_push_size ..
    · refine walk_from (X := gcx X (X.A.in1.in1.deeper (gev X scope h3.objs.size code)) { s2 with heap := h3, toks := tk } (upd H1 P (.tbl (ps ++ more))) (gev X scope h3.objs.size code) fp) over_gl rfl S.co rfl T (fun b hb => ⟨(Y0.ok.exf b hb).1, Y0.ok.exfs b hb, .inl hb, (Y0.ok.exf b hb).2, fun p hp => ?_⟩) (hpg _ _ _ _ _ _ hB) (hpt _ _ _ _ _ _ hB) (hpe _ _ _ _ _ _ hB) (fun σ' hw => ?_) V (Nat.lt_succ_self m0) (inv_heap Y2 rfl rfl (allBare_setGen (x := .running) Y2.bare rfl)) ?_ (fun b hb => (f3 b hb).1.1) w0
      · have e : p = (h'.objs.size, go) := by simpa [gcx] using hp
        rw [e]
        exact Nat.ne_of_gt (Nat.lt_trans (f3 b hb).2 (by omega))
      · refine ⟨by rw [← hw, wipe_length], fun j v e => ?_⟩
        rw [← hw] at e
        exact (wipe_some e).1
      · exact T.keep _ _ _ st3 fun b _ o e => Heap.get?_push_of_some _ (kp' b o e)
  cases hf : codeAmong gpos ps.toList with
  | some cv =>
    refine wpAny_genexprCode_hit hcode (hcd.code gP htri) hf ?_
    have z := key cv s2.heap s2.toks #[] (Heap.ExtBut.refl _ _) (Nat.le_refl _) (by rw [Array.append_empty]; exact gP) (by rw [Array.append_empty]; exact htri)
    exact z
  | none =>
    refine wpAny_genexprCodeX hcode (hcd.code gP htri) (hcd.tab gP) hf fun c' h3 tk hx hge hlt hco _ htab _ => ?_
    obtain ⟨o1, vs, f1, tf, fl, tg, inF, tx, tt, op, _, _, _, _, _, _, _, _, _, htr, _⟩ := hco
    exact key _ h3 tk _ hx (Nat.le_trans hge (Nat.le_of_lt hlt)) htab.2 htr
theorem pe_all {p pos : Pos} (hr : Room (k + 1) X.A) (hg : Gl X "all") (hm : X.mg "all" = none) (hb : bootBuiltins "all" = some (.builtin "all")) (TB : TabB X.base X.mg c P) (hcode : X.env.code = .ref c) (ok : BlkOk X.N X.env.scope scope own) (S : GSc scope) (hN : X.N.Nodup) (hi : PI X tg iter wi)
    (hpg : ∀ B s H C code fp, Room k B → PG (gcx X B s H (gev X scope C code) fp) tg g) (hpt : ∀ B s H C code fp, Room k B → PTs (gcx X B s H (gev X scope C code) fp) ifs tt) (hpe : ∀ B s H C code fp, Room k B → PE (gcx X B s H (gev X scope C code) fp) elt te)
    (hs : ∀ v, genFold iter X.env v = pure v)
    (he : starEach [.GeneratorExp elt [⟨tg, iter, ifs, 0⟩] scope gpos] X.env = (false, eval (.GeneratorExp elt [⟨tg, iter, ifs, 0⟩] scope gpos) X.env) :: starEach [] X.env := by rfl) :
    PE X (.Call (.Name "all" p) [.GeneratorExp elt [⟨tg, iter, ifs, 0⟩] scope gpos] [] pos) (tGen true P wi g tt te (own.map (·.2))) := by
  refine ⟨fun pins s σ H Q I h => ?_⟩
  refine wpAny_Call_Name_kw (ld_blt I hg hm hb ?_)
  refine PyProof.Rows.callWith_builtin1 ?_ he (by rfl)
  rw [he]
  show wpAny _ _ (spliced ((false, eval (.GeneratorExp elt [⟨tg, iter, ifs, 0⟩] scope gpos) X.env) :: backTo pos (starEach [] X.env))) _ _ s
  refine Calls.spliced_cons (thn (gen_core hr TB hcode ok S hN hi hpg hpt hpe hs I h) fun v s1 h1 => ?_)
  obtain ⟨Y, a, go, gn, n, τ, Dn, Et, rfl, ep, ew, isG, aw, ig, hDn, hEt⟩ := h1
  refine Calls.spliced_nil ?_
  refine call_function_tree F.kind_all F.plain_all F.entry_all (F.args_all1 _) ?_
  unfold Builtin.«all»
  refine wpAny_bind (m := oneArg "all" _) (wpAny_pure ?_)
  refine wpAny_bind (wpAny_pyIter_gen ig ?_)
  refine wpAny_pure ⟨plainId_quiet F.plain_all_loop _, ?_⟩
  rw [← ep, ← ew]
  exact all_run hr.hd (by have := hr.dp; omega) isG hDn hEt n s1 aw
theorem pe_any {p pos : Pos} (hr : Room (k + 1) X.A) (hg : Gl X "any") (hm : X.mg "any" = none) (TB : TabB X.base X.mg c P) (hcode : X.env.code = .ref c) (ok : BlkOk X.N X.env.scope scope own) (S : GSc scope) (hN : X.N.Nodup) (hi : PI X tg iter wi)
    (hpg : ∀ B s H C code fp, Room k B → PG (gcx X B s H (gev X scope C code) fp) tg g) (hpt : ∀ B s H C code fp, Room k B → PTs (gcx X B s H (gev X scope C code) fp) ifs tt) (hpe : ∀ B s H C code fp, Room k B → PE (gcx X B s H (gev X scope C code) fp) elt te)
    (hs : ∀ v, genFold iter X.env v = pure v)
    (he : starEach [.GeneratorExp elt [⟨tg, iter, ifs, 0⟩] scope gpos] X.env = (false, eval (.GeneratorExp elt [⟨tg, iter, ifs, 0⟩] scope gpos) X.env) :: starEach [] X.env := by rfl) :
    PE X (.Call (.Name "any" p) [.GeneratorExp elt [⟨tg, iter, ifs, 0⟩] scope gpos] [] pos) (tGen false P wi g tt te (own.map (·.2))) := by
  refine ⟨fun pins s σ H Q I h => ?_⟩
  refine wpAny_Call_Name_kw (ld_blt I hg hm boot_any ?_)
  refine PyProof.Rows.callWith_builtin1 ?_ he (by rfl)
  rw [he]
  show wpAny _ _ (spliced ((false, eval (.GeneratorExp elt [⟨tg, iter, ifs, 0⟩] scope gpos) X.env) :: backTo pos (starEach [] X.env))) _ _ s
  refine Calls.spliced_cons (thn (gen_core hr TB hcode ok S hN hi hpg hpt hpe hs I h) fun v s1 h1 => ?_)
  obtain ⟨Y, a, go, gn, n, τ, Dn, Et, rfl, ep, ew, isG, aw, ig, hDn, hEt⟩ := h1
  refine Calls.spliced_nil ?_
  refine call_function_tree F.kind_any F.plain_any F.entry_any (F.args_any1 _) ?_
  unfold Builtin.«any»
  refine wpAny_bind (m := oneArg "any" _) (wpAny_pure ?_)
  refine wpAny_bind (wpAny_pyIter_gen ig ?_)
  refine wpAny_pure ⟨plainId_quiet F.plain_any_loop _, ?_⟩
  rw [← ep, ← ew]
  exact any_run hr.hd (by have := hr.dp; omega) isG hDn hEt n s1 aw
end
end GX

namespace PL
open PySem PySem.Spec PyProof.Rows L2 FR GX
variable [Nm]

/-! ### targets of a generator expression: what is told of the wiped slots stays -/
theorem wipe_put {x : Option V} {i : Nat} : ∀ (vs : List Nat) (σ : List (Option V)), wipe (σ.set i x) vs = if i ∈ vs then wipe σ vs else (wipe σ vs).set i x
  | [], σ => by simp [wipe]
  | v :: vs, σ => by
    have ih := wipe_put (x := x) (i := i) vs σ
    show (wipe (σ.set i x) vs).set v none = _
    rw [ih]
    by_cases e : i = v
    · subst e
      rw [if_pos List.mem_cons_self]
      show _ = (wipe σ vs).set i none
      split
      · rfl
      · rw [List.set_set]
    · by_cases m : i ∈ vs
      · rw [if_pos m, if_pos (List.mem_cons_of_mem _ m)]
        rfl
      · rw [if_neg m, if_neg (by simp [e, m]), List.set_comm _ _ e]
        rfl
theorem wipe_in {x : Option V} {i : Nat} {vs : List Nat} {σ : List (Option V)} (h : i ∈ vs) : wipe (σ.set i x) vs = wipe σ vs := by rw [wipe_put, if_pos h]
theorem wipe_wipe (σ : List (Option V)) : ∀ vs : List Nat, wipe (wipe σ vs) vs = wipe σ vs := fun vs => by
  have key : ∀ (us : List Nat) (τ : List (Option V)), (∀ u ∈ us, u ∈ vs) → wipe (wipe τ us) vs = wipe τ vs := by
    intro us
    induction us with
    | nil => intro τ _; rfl
    | cons u us ih =>
      intro τ h
      show wipe ((wipe τ us).set u none) vs = _
      rw [wipe_in (h u List.mem_cons_self), ih τ fun w hw => h w (List.mem_cons_of_mem _ hw)]
  exact key vs σ fun _ h => h
def wipeR (ρ : Rho) : List Nat → Rho
  | [] => ρ
  | v :: vs => (wipeR ρ vs).set v none
section
variable {K : PySem.W.Frag} {ρ ρ1 ρ2 : Rho} {I J L N : Asn} {ta tb tc te : TE} {d e : Dat} {t u : TT} {b c : Bool} {ts us : TS} {k : Out} {tr : TA} {q : Addr} {ds : List PyData} {x y : PyData} {vs : List Nat}
theorem env_wipe {G : Hp} {σ : List (Option V)} (h : EnvD K G σ ρ) : ∀ vs : List Nat, EnvD K G (wipe σ vs) (wipeR ρ vs)
  | [] => h
  | v :: vs => env_none (env_wipe h vs)
def GW (K : PySem.W.Frag) (g : TG) (vs : List Nat) (x : PyData) (ρ ρ' : Rho) : Prop := ∀ G H σ v (Q : L2.St → Hp → Prop), Same G H → EnvD K G σ ρ → Dp K G v x → (∀ σ', EnvD K G σ' ρ' → wipe σ' vs = wipe σ vs → Q σ' H) → g v σ H Q
def GWs (K : PySem.W.Frag) (g : TGs) (vs : List Nat) (xs : List PyData) (ρ ρ' : Rho) : Prop := ∀ G H σ us (Q : L2.St → Hp → Prop), Same G H → EnvD K G σ ρ → DpAll K G us xs → (∀ σ', EnvD K G σ' ρ' → wipe σ' vs = wipe σ vs → Q σ' H) → g us σ H Q
theorem w_name {i : Nat} (h : i ∈ vs) : GW K (gName i) vs x ρ (ρ.set i (some (.d x))) := fun G H σ v Q gh en dv q => q _ (env_set (d := .d x) dv en) (wipe_in h)
theorem w_tup {g : TGs} {n : Nat} (hn : ds.length = n) (h : GWs K g vs ds ρ ρ1) : GW K (gTup K n g) vs (.tuple ds) ρ ρ1 := fun G H σ v Q gh en dv q => by
  cases dv with
  | tup s r => exact ⟨_, _, rfl, same_t gh s, by rw [dpa_len r, hn], h G H σ _ Q gh en r q⟩
theorem w_nil : GWs K gNil vs [] ρ ρ := fun G H σ us Q gh en dv q => by
  cases dv
  exact ⟨rfl, q σ en rfl⟩
theorem w_cons {g : TG} {gs : TGs} (h : GW K g vs x ρ ρ1) (hs : GWs K gs vs ds ρ1 ρ2) : GWs K (gCons g gs) vs (x :: ds) ρ ρ2 := fun G H σ us Q gh en dv q => by
  cases dv with
  | cons a b => exact ⟨_, _, rfl, h G H σ _ _ gh en a fun σ' en' w => hs G H σ' _ Q gh en' b fun σ2 en2 w2 => q σ2 en2 (w2.trans w)⟩

/-! ### all(..), any(..) of a generator expression -/
/-- over items (passes the tests, the element): all, any -/
def genB (pol : Bool) (ks : List (Bool × Bool)) : Bool := if pol = true then ks.all fun p => !p.1 || p.2 else ks.any fun p => p.1 && p.2
theorem gen_end {pol : Bool} {ks : List (Bool × Bool)} (h : ∀ p ∈ ks, p.1 = true → p.2 = pol) : genB pol ks = pol := by
  unfold genB
  cases pol with
  | true =>
    rw [if_pos rfl, List.all_eq_true]
    intro p hp
    cases e : p.1 with
    | false => rfl
    | true => rw [h p hp e]; rfl
  | false =>
    rw [if_neg Bool.false_ne_true, Bool.eq_false_iff]
    intro z
    rw [List.any_eq_true] at z
    obtain ⟨p, hp, z⟩ := z
    rw [Bool.and_eq_true] at z
    have := h p hp z.1
    rw [z.2] at this
    cases this
theorem gen_out {pol : Bool} {ks : List (Bool × Bool)} {p : Bool × Bool} (hp : p ∈ ks) (h1 : p.1 = true) (h2 : p.2 ≠ pol) : genB pol ks = !pol := by
  unfold genB
  cases pol with
  | true =>
    rw [if_pos rfl]
    show _ = false
    rw [Bool.eq_false_iff]
    intro z
    rw [List.all_eq_true] at z
    have := z p hp
    rw [h1] at this
    exact h2 (by simpa using this)
  | false =>
    rw [if_neg Bool.false_ne_true]
    show _ = true
    rw [List.any_eq_true]
    refine ⟨p, hp, ?_⟩
    rw [h1]
    cases e : p.2 with
    | true => rfl
    | false => exact (h2 e).elim
section
variable {g : TG} {tt : TT} {pol : Bool} {P : Addr} {ks : List (Bool × Bool)}
/-- one place of the walk -/
theorem word_of {J' : It} {n : Nat} {τ : L2.St} {Dn Et : Hp → Prop} {G1 : Hp} {xs : List V} (hks : ks.length = n) (hds : ds.length = n) (r : DpAll K G1 xs ds) (en : EnvD K G1 τ (wipeR ρ vs)) (hτ : wipe τ vs = τ)
    (hgo : ∀ i G' H, i < n → Same G1 G' → Same G' H → J'.go i H) (hst : ∀ G' H, Same G1 G' → Same G' H → J'.stop n H) (hy : ∀ i G' H x H', Same G1 G' → Same G' H → J'.yld i H x H' → H' = H ∧ xs[i]? = some x)
    (he : ∀ (i : Nat) (x : PyData) (p : Bool × Bool), ds[i]? = some x → ks[i]? = some p → ∃ ρ', GW K g vs x (wipeR ρ vs) ρ' ∧ T K tt ρ' I p.1 I ∧ (p.1 = true → E K te ρ' I (.b p.2) I))
    (hDn : ∀ G' H, Same G1 G' → Same G' H → I.ok G' H → genB pol ks = pol → Dn H) (hEt : ∀ G' H, Same G1 G' → Same G' H → I.ok G' H → genB pol ks = !pol → Et H) :
    Word J' g tt te vs τ pol Dn Et fun i m H => m = n - i ∧ i ≤ n ∧ (∃ G', Same G1 G' ∧ Same G' H ∧ I.ok G' H) ∧ ∀ p ∈ ks.take i, p.1 = true → p.2 = pol := by
  refine ⟨fun i m H ⟨hm, hi, ⟨G', a1, a2, a3⟩, hp⟩ => ?_⟩
  by_cases c : i < n
  · refine .inr ⟨hgo i G' H c a1 a2, fun H' => (∃ G2, Same G1 G2 ∧ Same G2 H' ∧ I.ok G2 H') ∧ ∀ p ∈ ks.take (i + 1), p.1 = true → p.2 = pol, fun H' z => ⟨n - (i + 1), by omega, rfl, c, z⟩, fun x H' y => ?_⟩
    obtain ⟨rfl, hx⟩ := hy i G' H x H' a1 a2 y
    have hkk : ks[i]? = some ks[i] := List.getElem?_eq_getElem (by omega)
    have hdd : ds[i]? = some ds[i] := List.getElem?_eq_getElem (by omega)
    obtain ⟨v, h1, h2⟩ := dpa_get r hdd
    rw [hx] at h1
    obtain rfl := Option.some.inj h1
    obtain ⟨ρ', hg, ht, hel⟩ := he i _ _ hdd hkk
    refine hg G' H' τ x _ a2 (env_mono a1 en) (dp_mono a1 _ _ h2) fun σ' en' hw => ⟨hw.trans hτ, ?_⟩
    refine ht G' H' σ' a2 en' a3 _ fun G2 H2 g2 gh2 j2 => ?_
    have tk : ks.take (i + 1) = ks.take i ++ [ks[i]] := by rw [List.take_add_one, hkk]; rfl
    cases e1 : ks[i].1 with
    | false =>
      rw [if_neg Bool.false_ne_true]
      refine ⟨⟨G2, a1.trans g2, gh2, j2⟩, fun p hp' hp1 => ?_⟩
      rw [tk] at hp'
      rcases List.mem_append.mp hp' with z | z
      · exact hp p z hp1
      · rw [List.mem_singleton.mp z, e1] at hp1
        cases hp1
    | true =>
      rw [if_pos rfl]
      refine hel e1 G2 H2 σ' gh2 (env_mono g2 en') j2 _ fun v G3 H3 g3 gh3 j3 dv => ⟨ks[i].2, dv_bl dv, ?_⟩
      have g13 := (a1.trans g2).trans g3
      by_cases e2 : ks[i].2 = pol
      · rw [if_pos e2]
        refine ⟨⟨G3, g13, gh3, j3⟩, fun p hp' hp1 => ?_⟩
        rw [tk] at hp'
        rcases List.mem_append.mp hp' with z | z
        · exact hp p z hp1
        · rw [List.mem_singleton.mp z]
          exact e2
      · rw [if_neg e2]
        exact hEt G3 H3 g13 gh3 j3 (gen_out (List.getElem_mem (by omega)) e1 e2)
  · have e : i = n := by omega
    subst e
    refine .inl ⟨hst G' H a1 a2, hDn G' H a1 a2 a3 (gen_end ?_)⟩
    rw [List.take_of_length_le (by omega)] at hp
    exact hp
/-- the table has grown -/
theorem tab_step {G H H2 : Hp} {T : Tbs} (hP : P ∈ T.gs) (tb : TabsIn T G H) (gh : Same G H) (z : GxR.Tabbed P H H2) : Stp NoA G H G H2 := by
  obtain ⟨⟨qs, hq, tq⟩, ho⟩ := z
  obtain ⟨ps, hp, tp⟩ := tb.1 P hP
  obtain ⟨rs, hr, _⟩ := gh P _ hp
  have st := Stp.tab (qs := qs) gh (by rw [hp]; exact fun z => by cases z) hr fun _ => tq
  have e : upd H P (.tbl qs) = H2 := by
    funext b
    by_cases h : b = P
    · rw [h, upd_same, hq]
    · rw [upd_ne h, ho b h]
  rw [e] at st
  exact st
theorem tabG_of {G H : Hp} {T : Tbs} (hP : P ∈ T.gs) (tb : TabsIn T G H) (gh : Same G H) : GxR.TabG H P := by
  obtain ⟨ps, hp, tp⟩ := tb.1 P hP
  obtain ⟨rs, hr, t⟩ := gh P _ hp
  exact ⟨rs, hr, t tp⟩
theorem e_genT {tl : TE} {T' : Tbs} [hT : HasT T' I] (hP : P ∈ T'.gs) (hl : E K tl ρ I (.t ds) I) (hks : ks.length = ds.length)
    (he : ∀ (i : Nat) (x : PyData) (p : Bool × Bool), ds[i]? = some x → ks[i]? = some p → ∃ ρ', GW K g vs x (wipeR ρ vs) ρ' ∧ T K tt ρ' I p.1 I ∧ (p.1 = true → E K te ρ' I (.b p.2) I)) :
    E K (tGen pol P (iTup K tl) g tt te vs) ρ I (.b (genB pol ks)) I := fun G H σ gh en io Q q => hl G H σ gh en io _ fun v G1 H1 g1 gh1 j1 dv => by
  cases dv with
  | tup s r =>
    rename_i a xs
    refine ⟨a, rfl, ⟨_, same_t gh1 s⟩, tabG_of hP (hT.get _ _ j1) gh1, fun H2 z => ?_⟩
    have st := tab_step hP (hT.get _ _ j1) gh1 z
    refine ⟨_, ⟨ds.length, rfl, Nat.zero_le _, ⟨G1, Same.refl _, st.gh, Asn.pure_st st j1⟩, fun p hp => by simp at hp⟩, word_of hks rfl r (env_wipe (env_mono g1 en) vs) (wipe_wipe σ vs) (fun i G' H' hi b1 b2 => ?_) (fun G' H' b1 b2 => ⟨xs, same_t (b1.trans b2) s, Nat.le_of_eq (dpa_len r)⟩) (fun i G' H' x H'' b1 b2 y => ⟨y.1, y.2 xs (same_t (b1.trans b2) s)⟩) he (fun G' H' b1 b2 b3 e => ?_) (fun G' H' b1 b2 b3 e => ?_)⟩
    · have hx : i < xs.length := by rw [dpa_len r]; exact hi
      exact ⟨xs, xs[i], same_t (b1.trans b2) s, List.getElem?_eq_getElem hx⟩
    · exact q _ G' H' (g1.trans b1) b2 b3 (by rw [e]; exact .bl pol)
    · exact q _ G' H' (g1.trans b1) b2 b3 (by rw [e]; exact .bl (!pol))
theorem e_genL {tl : TE} {T' : Tbs} [hT : HasT T' I] (hP : P ∈ T'.gs) (hl : E K tl ρ I (.d (.list ds)) I) (hks : ks.length = ds.length)
    (he : ∀ (i : Nat) (x : PyData) (p : Bool × Bool), ds[i]? = some x → ks[i]? = some p → ∃ ρ', GW K g vs x (wipeR ρ vs) ρ' ∧ T K tt ρ' I p.1 I ∧ (p.1 = true → E K te ρ' I (.b p.2) I)) :
    E K (tGen pol P (iList K tl) g tt te vs) ρ I (.b (genB pol ks)) I := fun G H σ gh en io Q q => hl G H σ gh en io _ fun v G1 H1 g1 gh1 j1 dv => by
  cases dv with
  | lst s r =>
    rename_i a xs
    refine ⟨a, rfl, ⟨_, gh1.seq s⟩, tabG_of hP (hT.get _ _ j1) gh1, fun H2 z => ?_⟩
    have st := tab_step hP (hT.get _ _ j1) gh1 z
    refine ⟨_, ⟨ds.length, rfl, Nat.zero_le _, ⟨G1, Same.refl _, st.gh, Asn.pure_st st j1⟩, fun p hp => by simp at hp⟩, word_of hks rfl r (env_wipe (env_mono g1 en) vs) (wipe_wipe σ vs) (fun i G' H' hi b1 b2 => ?_) (fun G' H' b1 b2 => ⟨xs, (b1.trans b2).seq s, Nat.le_of_eq (dpa_len r)⟩) (fun i G' H' x H'' b1 b2 y => ⟨y.1, y.2 xs ((b1.trans b2).seq s)⟩) he (fun G' H' b1 b2 b3 e => ?_) (fun G' H' b1 b2 b3 e => ?_)⟩
    · have hx : i < xs.length := by rw [dpa_len r]; exact hi
      exact ⟨xs, xs[i], (b1.trans b2).seq s, List.getElem?_eq_getElem hx⟩
    · exact q _ G' H' (g1.trans b1) b2 b3 (by rw [e]; exact .bl pol)
    · exact q _ G' H' (g1.trans b1) b2 b3 (by rw [e]; exact .bl (!pol))
theorem t_yes : T K tYes ρ I true I := fun G H σ gh en io Q q => q G H (Same.refl _) gh io
end
theorem genB_all (bs : List Bool) : genB true (bs.map fun b => (true, b)) = bs.all id := by
  unfold genB
  rw [if_pos rfl, List.all_map]
  congr 1
theorem genB_any (bs : List Bool) : genB false (bs.map fun b => (true, b)) = bs.any id := by
  unfold genB
  rw [if_neg Bool.false_ne_true, List.any_map]
  congr 1
end

/-! ### defs with a table -/
structure FunC (K : PySem.W.Frag) (x qual : Str) (st : Stmt) (f : Addr) (fd : FuncData) (c : Addr) : Prop where
  ex : ∃ (oc : Value) (od : Option Addr) (kV doc pm : Value) (an : Option Addr) (ct : Value) (osl : Array (Option Value)),
    fd = PySem.W.fnOf x qual (defArgs st) (defBody st) (defScope st) .none kV doc pm an (.ref c) ct ∧ K.lookup f = some ⟨oc, od, .func fd, osl⟩ ∧ PySem.W.codeIn K (.ref c) qual = true
  kp : PySem.W.keepIn K (.ref f) = true
section
variable {P : Program} {w : World} {K : PySem.W.Frag} {mg : Str → Option Value} {base : Heap}
theorem FunC.of {x qual : Str} {st : Stmt} {f c : Addr} {fd : FuncData} (F : FunC K x qual st f fd c) : Fun K x qual st f fd := by
  obtain ⟨oc, od, kV, doc, pm, an, ct, osl, e, l, k⟩ := F.ex
  exact ⟨⟨oc, od, kV, doc, pm, an, _, ct, osl, e, l, k⟩, F.kp⟩
theorem FunC.okC {CX : CXT} {x qual : Str} {st : Stmt} {f c : Addr} {fd : FuncData} {N ps : List Str} {k : Nat} {sp : Sp} (F : FunC K x qual st f fd c) (S : FnScope N ps (defScope st)) (len : ∀ vs H Q E, sp vs H Q E → vs.length = ps.length)
    (hbody : ∀ (A : Around) (outer : List Env) (s : Shared) (H : Hp) (vs : List V) (Q : VK) (E : XK), Room k (A.deeper (envOfC qual (defScope st) s.heap.objs.size f (.ref c))) → sp vs H Q E →
      ∃ t, PSs (cxOf CX P w K mg base N qual (defScope st) f (.ref c) A outer s H E) (defBody st) t ∧ t { nx := fun _ H' => Q .non H', rt := Q } (L2.start N vs) H) : FnOk P w K mg base CX (k + 1) f fd ps sp := by
  obtain ⟨oc, od, kV, doc, pm, an, ct, osl, rfl, lk, hcd⟩ := F.ex
  exact fn_of lk hcd S len fun A outer s H vs Q E hr hsp => hbody A outer s H vs Q E hr hsp
theorem FunC.ok {x qual : Str} {st : Stmt} {f c : Addr} {fd : FuncData} {N ps : List Str} {k : Nat} {sp : Sp} (F : FunC K x qual st f fd c) (S : FnScope N ps (defScope st)) (len : ∀ vs H Q E, sp vs H Q E → vs.length = ps.length)
    (hbody : ∀ (A : Around) (outer : List Env) (s : Shared) (H : Hp) (vs : List V) (Q : VK) (E : XK), Room k (A.deeper (envOfC qual (defScope st) s.heap.objs.size f (.ref c))) → sp vs H Q E →
      ∃ t, PSs (cxOf CX0 P w K mg base N qual (defScope st) f (.ref c) A outer s H E).nox (defBody st) t ∧ t { nx := fun _ H' => Q .non H', rt := Q } (L2.start N vs) H) : FnOk P w K mg base CX0 (k + 1) f fd ps sp :=
  F.okC S len fun A outer s H vs Q E hr hsp => by
    obtain ⟨t, h, q⟩ := hbody A outer s H vs Q E hr hsp
    exact ⟨t, h.nox, q⟩
theorem funC_mk {x qual : Str} {st : Stmt} {f c : Addr} {oc : Value} {od an : Option Addr} {osl : Array (Option Value)} {kV doc pm cdv ct : Value} (l : K.lookup f = some ⟨oc, od, .func (PySem.W.fnOf x qual (defArgs st) (defBody st) (defScope st) .none kV doc pm an cdv ct), osl⟩)
    (e : cdv = .ref c) (k1 : PySem.W.codeIn K cdv qual = true) (k : PySem.W.keepIn K (.ref f) = true) : FunC K x qual st f (PySem.W.fnOf x qual (defArgs st) (defBody st) (defScope st) .none kV doc pm an cdv ct) c := by
  subst e
  exact ⟨⟨oc, od, kV, doc, pm, an, ct, osl, rfl, l, k1⟩, k⟩
/-- the code object of a def of the top -/
theorem code_eq {x : Str} {f c P' : Addr} {oc : Value} {od : Option Addr} {fd : FuncData} {osl : Array (Option Value)} (hn : PySem.W.nsIn K mainGlobals x = some (some (.ref f))) (l : K.lookup f = some ⟨oc, od, .func fd, osl⟩) (t : PySem.W.tabIn K x = some (c, P')) : fd.code = .ref c := by
  unfold PySem.W.tabIn at t
  rw [hn] at t
  simp only [l] at t
  split at t
  · rename_i c2 hc
    split at t
    · split at t
      · cases t
        exact hc
      · cases t
    · cases t
  · cases t
end
theorem tab_in {K : PySem.W.Frag} {x : Str} {f c P : Addr} {oc : Value} {od : Option Addr} {fd : FuncData} {osl : Array (Option Value)} {uc : Value} {ud : Option Addr} {uv : Array Value} {us : Array (Option Value)} (hn : PySem.W.nsIn K mainGlobals x = some (some (.ref f))) (l : K.lookup f = some ⟨oc, od, .func fd, osl⟩) (hc : fd.code = .ref c)
    (u : K.lookup c = some ⟨uc, ud, .fields uv, us⟩) (hv : (uv[11]? : Option Value) = some (.ref P)) : PySem.W.tabIn K x = some (c, P) := by
  unfold PySem.W.tabIn
  rw [hn]
  simp only [l, hc, u, hv]
/-- a law whose defs write tables; the ground of the head is told -/
theorem walk_ofG {l : PySem.W.OpenLaw} {n k : Nat} {q : Program} {loose : List Str} {XP : (Str → Option Value) → Heap → Prop} {YP : World → Heap → Prop} {d : DefRec} {K : Params → PySem.W.Frag} {CX : World → CXT} {x : Str}
    (hn : l.most = some n) (hn2 : n ≤ sizeLine) (hdf : d.params.defaults = []) (hr : Room k callerA) (hY : ∀ (w : World) (h : Heap), YP w h → (K w.params).In h)
    (F : ∀ (w : World) (mg : Str → Option Value) (fa : Addr) (h : Heap), (K w.params).In h → h.Ns mainGlobals mg → mg d.name = some (.ref fa) →
      (∀ (y : Str) (c P : Addr), ((recsOf q).any fun e => e.name == y) = true → PySem.W.tabIn (K w.params) y = some (c, P) → PySem.W.CodeHd h c P ∧ h.get? P = some { cls := .none, data := .fields #[] }) → LamX.LawAtS l w (K w.params) (CX w) k n x mg fa h)
    (hCX : ∀ (w : World) (H : Hp) (s : Shared) (e : Value) (s' : Shared), CX w [] H s (fun _ _ _ => False) e s' → False) :
    PySem.W.WalkO q loose XP YP l.row.toRowW d [] (fun f vs => PySem.call f vs) := by
  refine Att.attach_callB hn hdf fun w s₀ s₁ mg mb fa o pm cd doc a vs ns G Y ho hd hcd hmg hobj hints hlen hbits hg => ?_
  have kx := hY w _ Y
  obtain ⟨fd, cs, sp, hT, nT, C, hb, hsp, hF⟩ := F w mg fa _ kx G.T.g hmg fun y c P hy ht => by
    obtain ⟨d', hd'⟩ : ∃ d', (recsOf q).find? (fun e => e.name == y) = some d' := by
      rw [← Option.isSome_iff_exists, List.find?_isSome]
      rw [List.any_eq_true] at hy
      exact hy
    exact PySem.W.tab_of G.T kx hd' ht
  exact LamX.law_callTs kx G.T.g G.T.b G.T.builtins G.T.nolimit hg hT nT C G.T.bmain hobj hints (Nat.le_trans hlen hn2) hr hF hb (fun H hH hS => hsp H a ns hlen hbits hH hS) fun H e s' => hCX w H s₁ e s'
end PL

set_option maxHeartbeats 1000000
/-! list(zip(x, y)) of two pairs -/
namespace LZ
open PySem PySem.Spec PyProof.Rows L2 RZ

theorem zip_no_len : typeLookup (.type "zip") "__len__" = pure none := by rw [typeLookup_type, builtinLookup_eq_fast]; kernel_rfl
theorem zip_no_hint : typeLookup (.type "zip") "__length_hint__" = pure none := by rw [typeLookup_type, builtinLookup_eq_fast]; kernel_rfl
section
variable {prog : Program} {w : World} {A : Around} {E : Value → Shared → Prop} {s : Shared}
theorem held_item {z TI TO T i1 i2 l1 l2 : Addr} {f : Bool} {oT : Obj} {k1 k2 : Nat} {xs ys : Array Value} {x y : Value} {Q : Option Value → Shared → Prop} (D : ZipApart z TI TO i1 i2 l1 l2)
    (hz : IsZipHeld s.heap z TI TO T f) (hT : s.heap.get? T = some oT) (hTI : IsPair s.heap TI (.ref i1) (.ref i2)) (h1 : s.heap.IsTupleIter i1 l1 k1) (h2 : s.heap.IsTupleIter i2 l2 k2) (hl1 : s.heap.IsTuple l1 xs) (hl2 : s.heap.IsTuple l2 ys) (hx : xs[k1]? = some x) (hy : ys[k2]? = some y)
    (hQ : ∀ h', IsZipHeld h' z TI TO T true → h'.IsTupleIter i1 l1 (k1 + 1) → h'.IsTupleIter i2 l2 (k2 + 1) → IsPair h' s.heap.objs.size x y → h'.objs.size = s.heap.objs.size + 1 →
      (∀ c o, c ≠ z → c ≠ i1 → c ≠ i2 → s.heap.get? c = some o → h'.get? c = some o) → Q (some (.ref s.heap.objs.size)) { s with heap := h' }) :
    wpAny (model prog w) A (pyNext (.ref z)) Q E s := by
  have ty : s.TypeIs (.ref z) "zip" := ⟨_, hz, rfl⟩
  unfold pyNext
  refine wpAny_bind (wpAny_attempt (wpAny_callSpecial?_slot (name := Str.ofString "__next__") ty F.slot_zip_next (wpAny_call_entry F.slot_zip_next ty F.entry_zip_next ?_ (F.args_zip_next_1 _))))
  show wpAny _ _ (field (.ref z) 2 >>= _) _ _ _
  refine wpAny_bind (wpAny_field hz rfl (x := .bool false) rfl ?_)
  show wpAny _ _ (field (.ref z) 3 >>= _) _ _ _
  refine wpAny_bind (wpAny_field hz rfl (x := .ref TI) rfl (wpAny_bind (wpAny_seqItems hTI rfl ?_)))
  show wpAny _ _ (Builtin.SmallTypes.ownedTupleIsFree (.ref z) >>= _) _ _ _
  refine wpAny_bind (wpAny_tupleHeld_zip hz hT fun ha za sa => ?_)
  simp only [Bool.false_eq_true, if_false]
  refine wpAny_bind ?_
  rw [← Array.forIn_toList]
  simp only [List.forIn_cons, List.forIn_nil]
  refine wpAny_bind (wpAny_bind (wpAny_holding ?_))
  show wpAny _ _ (Builtin.SmallTypes.nextOf (.ref i1) >>= _) _ _ _
  refine wpAny_bind (nextOf_tuple_item (s := { s with heap := ha }) (h1.extBut sa.extBut D.i1z) (hl1.extBut sa.extBut D.l1z) hx fun hb ib sb => wpAny_pure (wpAny_pure ?_))
  refine wpAny_bind (wpAny_bind (wpAny_holding ?_))
  show wpAny _ _ (Builtin.SmallTypes.nextOf (.ref i2) >>= _) _ _ _
  refine wpAny_bind (nextOf_tuple_item (s := { s with heap := hb }) ((h2.extBut sa.extBut D.i2z).extBut sb.extBut D.i12.symm) ((hl2.extBut sa.extBut D.l2z).extBut sb.extBut D.l2i1) hy fun hc ic sc => wpAny_pure (wpAny_pure (wpAny_pure ?_)))
  show wpAny _ _ (newTuple [x, y] >>= _) _ _ _
  refine wpAny_bind (wpAny_newTuple ?_)
  have size : hc.objs.size = s.heap.objs.size := by rw [sc.1, sb.1, sa.1]
  have zc : IsZipHeld hc z TI TO T true := sc.extBut _ _ D.i2z.symm (sb.extBut _ _ D.i1z.symm za)
  have kc : ∀ c o, c ≠ z → c ≠ i1 → c ≠ i2 → s.heap.get? c = some o → hc.get? c = some o := fun c o n1 n2 n3 e => sc.extBut _ _ n3 (sb.extBut _ _ n2 (sa.extBut _ _ n1 e))
  have i1c : hc.IsTupleIter i1 l1 (k1 + 1) := ib.extBut sc.extBut D.i12
  have pc : IsPair (hc.push { cls := .type "tuple", data := .seq #[x, y] }) hc.objs.size x y := Heap.get?_push_size _ rfl
  have szc : (hc.push { cls := .type "tuple", data := .seq #[x, y] }).objs.size = hc.objs.size + 1 := Heap.size_push ..
  refine wpAny_pure ⟨_, rfl, wpAny_pure ?_⟩
  show Q (some (.ref hc.objs.size)) _
  rw [size] at pc szc ⊢
  exact hQ _ (Heap.get?_push_of_some _ zc) (i1c.at fun o e => Heap.get?_push_of_some _ e) (ic.at fun o e => Heap.get?_push_of_some _ e) pc szc fun c o n1 n2 n3 e => Heap.get?_push_of_some _ (kc c o n1 n2 n3 e)
theorem held_end {z TI TO T i1 i2 l1 l2 : Addr} {f : Bool} {oT : Obj} {k1 k2 : Nat} {xs ys : Array Value} {Q : Option Value → Shared → Prop} (hh : A.handled = none) (D : ZipApart z TI TO i1 i2 l1 l2)
    (hz : IsZipHeld s.heap z TI TO T f) (hT : s.heap.get? T = some oT) (hTI : IsPair s.heap TI (.ref i1) (.ref i2)) (h1 : s.heap.IsTupleIter i1 l1 k1) (hl1 : s.heap.IsTuple l1 xs) (hx : xs[k1]? = none)
    (hQ : ∀ h', (∀ c o, c ≠ z → c ≠ i1 → c ≠ i2 → s.heap.get? c = some o → h'.get? c = some o) → Q none { s with heap := h' }) :
    wpAny (model prog w) A (pyNext (.ref z)) Q E s := by
  have ty : s.TypeIs (.ref z) "zip" := ⟨_, hz, rfl⟩
  unfold pyNext
  refine wpAny_bind (wpAny_attempt (wpAny_callSpecial?_slot (name := Str.ofString "__next__") ty F.slot_zip_next (wpAny_call_entry F.slot_zip_next ty F.entry_zip_next ?_ (F.args_zip_next_1 _))))
  show wpAny _ _ (field (.ref z) 2 >>= _) _ _ _
  refine wpAny_bind (wpAny_field hz rfl (x := .bool false) rfl ?_)
  show wpAny _ _ (field (.ref z) 3 >>= _) _ _ _
  refine wpAny_bind (wpAny_field hz rfl (x := .ref TI) rfl (wpAny_bind (wpAny_seqItems hTI rfl ?_)))
  show wpAny _ _ (Builtin.SmallTypes.ownedTupleIsFree (.ref z) >>= _) _ _ _
  refine wpAny_bind (wpAny_tupleHeld_zip hz hT fun ha za sa => ?_)
  simp only [Bool.false_eq_true, if_false]
  refine wpAny_bind ?_
  rw [← Array.forIn_toList]
  simp only [List.forIn_cons, List.forIn_nil]
  refine wpAny_bind (wpAny_bind (wpAny_holding ?_))
  show wpAny _ _ (Builtin.SmallTypes.nextOf (.ref i1) >>= _) _ _ _
  refine wpAny_bind (nextOf_tuple_end (s := { s with heap := ha }) hh (h1.extBut sa.extBut D.i1z) (hl1.extBut sa.extBut D.l1z) hx fun hb e sb he => ?_)
  obtain ⟨o, ho, hc⟩ := he
  refine wpAny_bind (wpAny_isInstance (T := "StopIteration") (b := true) ⟨o, ho, hc⟩ isSubtype_stop ?_)
  exact wpAny_pure (hQ _ fun c ob n1 n2 _ x => sb _ _ n2 (sa.extBut _ _ n1 x))
end
section
variable {prog : Program} {w : World} {A : Around} {s : Shared} {R : Result → Shared → Prop} {S z : Addr} {res : Value}
theorem ext_some (h : wpAny (model prog w) A.in1 (pyNext (.ref z)) (fun r s1 => ∃ v acc c, r = some v ∧ s1.heap.get? S = some (lstObj acc c) ∧ acc.size < sizeLine ∧ codeAny (model prog w) A (.builtin "list.extend.loop" ⟨[.ref S, .ref z, res], []⟩) R { s1 with heap := s1.heap.update S (Obj.mapSeq (·.push v)) }) (fun _ _ => False) s) :
    codeAny (model prog w) A (.builtin "list.extend.loop" ⟨[.ref S, .ref z, res], []⟩) R s := by
  refine codeAny_builtin F.entry_extend_loop ?_
  rw [Around.under_plainId F.plain_extend_loop _]
  show wpAny _ A.in1 (pyNext (.ref z) >>= _) _ _ s
  refine wpAny_bind (wpAny_mono h (fun r s1 ⟨v, acc, c, e, hS, hlt, k⟩ => ?_) fun _ _ z => z.elim)
  subst e
  show wpAny _ A.in1 (updateSeq S (·.push v) >>= _) _ _ _
  refine wpAny_bind (wpAny_updateSeq hS rfl (wpAny_pure ⟨plainId_quiet F.plain_extend_loop _, k⟩) (Nat.le_of_lt hlt) (by show (acc.push v).size ≤ sizeLine + 1; rw [Array.size_push]; omega))
theorem ext_none (h : wpAny (model prog w) A.in1 (pyNext (.ref z)) (fun r s1 => r = none ∧ R (.ok (.ret res)) s1) (fun _ _ => False) s) :
    codeAny (model prog w) A (.builtin "list.extend.loop" ⟨[.ref S, .ref z, res], []⟩) R s := by
  refine codeAny_builtin F.entry_extend_loop ?_
  rw [Around.under_plainId F.plain_extend_loop _]
  show wpAny _ A.in1 (pyNext (.ref z) >>= _) _ _ s
  refine wpAny_bind (wpAny_mono h (fun r s1 ⟨e, k⟩ => ?_) fun _ _ z => z.elim)
  subst e
  exact wpAny_pure k
end
section
variable {P : Program} {w : World} {fs ex : List Addr} {H0 H H' : Hp} {h0 h : Heap} {a : Addr} {o : HO}
theorem un_add (u : Un fs ex H0 H h0 h) (hn : H a = none) (ha : h0.objs.size ≤ a) : Un fs ex H0 (upd H a o) h0 h where
  keep := u.keep
  slot := u.slot
  free := fun b ob e n hx => by rw [upd_ne (Nat.ne_of_lt (Nat.lt_of_lt_of_le (Heap.lt_size e) ha))]; exact u.free b ob e n hx
  there := u.there
  tups := fun b xs e => by have z := u.tups b xs e; rw [upd_ne (ne_of_none z hn)]; exact z
  frzs := fun b ob xs e => by have z := u.frzs b ob xs e; rw [upd_ne (ne_of_none z hn)]; exact z
  tbls := fun b ps e => by
    obtain ⟨m, z⟩ := u.tbls b ps e
    exact ⟨m, by rw [upd_ne (ne_of_none z hn)]; exact z⟩
theorem hok_add (x : HOk P w H h) (hn : H a = none) (new : ObjOk P w (upd H a o) h a o) : HOk P w (upd H a o) h := fun b u e => by
  by_cases hb : b = a
  · subst hb
    rw [upd_same] at e
    cases e
    exact new
  · rw [upd_ne hb] at e
    exact (x b u e).stay (fun _ _ _ q => q) (fun c q => by rw [upd_ne (ne_of_none q hn)]; exact q) fun c xs q => by rw [upd_ne (ne_of_none q hn)]; exact q
end
theorem call_listZ {prog : Program} {w : World} {A : Around} {s1 : Shared} {E : Value → Shared → Prop} {Q : Value → Shared → Prop} {a b N : Nat} {u0 u1 w0 w1 : Value} {h1 : Heap} (hd : A.handled = none) (D : ZipApart (N + 4) (N + 2) (N + 3) N (N + 1) a b) (la : a < N) (lb : b < N)
    (hz : IsZip h1 (N + 4) (N + 2) (N + 3) .none) (hTI : IsPair h1 (N + 2) (.ref N) (.ref (N + 1))) (hTO : IsPair h1 (N + 3) .none .none) (hi1 : h1.IsTupleIter N a 0) (hi2 : h1.IsTupleIter (N + 1) b 0) (hsz : h1.objs.size = N + 5)
    (ta : h1.IsTuple a [u0, u1].toArray) (tb : h1.IsTuple b [w0, w1].toArray)
    (hQ : ∀ (h2 : Heap) (p0 p1 l : Nat), h1.objs.size ≤ p0 → h1.objs.size ≤ p1 → h1.objs.size ≤ l → p0 ≠ p1 → p0 ≠ l → p1 ≠ l → (∀ c o, c < N → h1.get? c = some o → h2.get? c = some o) → IsPair h2 p0 u0 w0 → IsPair h2 p1 u1 w1 →
      (∃ n, h2.get? l = some { cls := .type "list", data := .seq [Value.ref p0, Value.ref p1].toArray n }) → Q (.ref l) { s1 with heap := h2 }) :
    wpAny (model prog w) A (call (.type "list") [.ref (N + 4)]) Q E { s1 with heap := h1 } := by
  have hsl : (h1.push { cls := .type "list", data := .seq #[] }).get? h1.objs.size = some { cls := .type "list", data := .seq #[] } := Heap.get?_push_size _ rfl
  refine callType_codes (Q₁ := fun obj s2 => obj = .ref h1.objs.size ∧ s2 = { s1 with heap := h1.push { cls := .type "list", data := .seq #[] } }) F.called_list (F.typeCall_list_1 _) F.entry_list_init (code_list_new _ ⟨rfl, rfl⟩) fun obj s2 e2 => ?_
  obtain ⟨rfl, rfl⟩ := e2
  refine ⟨⟨_, hsl, rfl⟩, F.args_list_init_2 _ _, ?_⟩
  show wpAny _ A.in1.in1 (do let old ← Builtin.List.listItems (.ref h1.objs.size); Builtin.List.listUpdate (.ref h1.objs.size) (fun _ => #[]); letGo old.toList.reverse; Builtin.List.listExtendWith (.ref h1.objs.size) (.ref (N + 4)) .none) _ _ _
  refine wpAny_bind ?_
  unfold Builtin.List.listItems
  refine wpAny_bind (wpAny_seqItems hsl rfl (wpAny_pure ?_))
  show wpAny _ A.in1.in1 (updateSeq h1.objs.size (fun _ => #[]) >>= fun _ => letGo (#[] : Array Value).toList.reverse >>= fun _ => Builtin.List.listExtendWith (.ref h1.objs.size) (.ref (N + 4)) .none) _ _ _
  refine wpAny_bind (wpAny_updateSeq hsl rfl (wpAny_bind (wpAny_letGo ?_)))
  have hsl2 := Heap.get?_update_self (Obj.mapSeq (fun _ => (#[] : Array Value))) hsl rfl
  unfold Builtin.List.listExtendWith
  have up1 : ∀ (g : Heap) (f : Obj → Obj), (∀ c o, h1.get? c = some o → g.get? c = some o) → ∀ c o, h1.get? c = some o → (g.update h1.objs.size f).get? c = some o := fun g f k c o e => (Heap.get?_update_other _ _ (Ne.symm (Nat.ne_of_lt (Heap.lt_size e)))).trans (k c o e)
  have k1 : ∀ c o, h1.get? c = some o → (h1.push { cls := .type "list", data := .seq #[] }).get? c = some o := fun c o e => Heap.get?_push_of_some _ e
  have k2 := up1 _ (Obj.mapSeq (fun _ => (#[] : Array Value))) k1
  have tz : ∀ {g : Heap}, (∀ c o, h1.get? c = some o → g.get? c = some o) → ({ s1 with heap := g } : Shared).TypeIs (.ref (N + 4)) "zip" := fun {g} k => ⟨_, k _ _ hz, rfl⟩
  refine wpAny_bind (wpAny_typeOf (tz k2) ?_)
  have nS : Builtin.List.listSameRef (.ref h1.objs.size) (.ref (N + 4)) = false := by
    have : h1.objs.size ≠ N + 4 := by omega
    simp [Builtin.List.listSameRef, this]
  have nL : (Value.type "zip" == Value.type "list") = false := by decide
  have nT : (Value.type "zip" == Value.type "tuple") = false := by decide
  simp only [nS, nL, nT, Bool.or_false, Bool.false_eq_true, if_false]
  refine wpAny_bind (wpAny_pyIter_zip (s := { s1 with heap := _ }) (k2 _ _ hz) (wpAny_bind (wpAny_holding ?_)))
  unfold Builtin.List.listLengthHint
  refine wpAny_bind (wpAny_specialOf (tz k2) zip_no_len ?_)
  show wpAny _ A.in1.in1 (specialOf (Value.ref (N + 4)) (Str.ofString "__length_hint__") >>= _) _ _ _
  refine wpAny_bind (wpAny_specialOf (tz k2) zip_no_hint (wpAny_pure ?_))
  show wpAny _ A.in1.in1 (rule "list.extend.makes-room" >>= fun _ => Builtin.List.listTouch (.ref h1.objs.size) >>= fun _ => again (.builtin "list.extend.loop" ⟨[.ref h1.objs.size, .ref (N + 4), .none], []⟩)) _ _ _
  refine wpAny_bind (wpAny_rule (wpAny_bind ?_))
  show wpAny _ A.in1.in1 (updateSeq h1.objs.size (·.push .none) >>= fun _ => updateSeq h1.objs.size (·.pop)) _ _ _
  refine wpAny_bind (wpAny_updateSeq hsl2 rfl ?_)
  have hsl3 := Heap.get?_update_self (Obj.mapSeq (·.push Value.none)) hsl2 rfl
  refine wpAny_updateSeq (hz := by seq_fits) hsl3 rfl ?_
  have hsl4 := Heap.get?_update_self (Obj.mapSeq (·.pop)) hsl3 rfl
  have k4 := up1 _ (Obj.mapSeq (·.pop)) (up1 _ (Obj.mapSeq (·.push Value.none)) k2)
  have sz4 : ((((h1.push { cls := .type "list", data := .seq #[] }).update h1.objs.size (Obj.mapSeq (fun _ => (#[] : Array Value)))).update h1.objs.size (Obj.mapSeq (·.push Value.none))).update h1.objs.size (Obj.mapSeq (·.pop))).objs.size = h1.objs.size + 1 := by
    rw [Heap.size_after_update, Heap.size_after_update, Heap.size_after_update, Heap.size_push]
  refine wpAny_pure ⟨plainId_quiet F.plain_extend_loop _, ?_⟩
  show codeAny (model prog w) A.in1 (.builtin "list.extend.loop" ⟨[.ref h1.objs.size, .ref (N + 4), .none], []⟩) _ { s1 with heap := (((h1.push { cls := .type "list", data := .seq #[] }).update h1.objs.size (Obj.mapSeq (fun _ => (#[] : Array Value)))).update h1.objs.size (Obj.mapSeq (·.push Value.none))).update h1.objs.size (Obj.mapSeq (·.pop)) }
  generalize (((h1.push { cls := .type "list", data := .seq #[] }).update h1.objs.size (Obj.mapSeq (fun _ => (#[] : Array Value)))).update h1.objs.size (Obj.mapSeq (·.push Value.none))).update h1.objs.size (Obj.mapSeq (·.pop)) = g4 at *
  generalize hL : h1.objs.size = L at *
  obtain ⟨c4, hs4⟩ : ∃ c, g4.get? L = some (lstObj #[] c) := ⟨_, hsl4⟩
  clear hsl hsl2 hsl3 hsl4 k1 k2 up1 tz nS
  have hsz' : (L : Nat) = N + 5 := hsz
  have la' : (a : Nat) < N := la
  have lb' : (b : Nat) < N := lb
  have sz4' : (g4.objs.size : Nat) = N + 6 := by omega
  clear sz4 hsz
  have ne : ∀ x y : Nat, ¬ x = y → x ≠ y := fun _ _ h => h
  have kt : ∀ {g : Heap} {l : Addr} {xs : Array Value}, (∀ o, g4.get? l = some o → g.get? l = some o) → g4.IsTuple l xs → g.IsTuple l xs := fun k ⟨o, e, r⟩ => ⟨o, k o e, r⟩
  have ta4 : g4.IsTuple a [u0, u1].toArray := let ⟨o, e, r⟩ := ta; ⟨o, k4 _ _ e, r⟩
  have tb4 : g4.IsTuple b [w0, w1].toArray := let ⟨o, e, r⟩ := tb; ⟨o, k4 _ _ e, r⟩
  refine ext_some (pyNext_zipT_item (x := u0) (y := w0) D (k4 _ _ hz) (k4 _ _ hTI) (k4 _ _ hTO) (hi1.at fun o e => k4 _ o e) (hi2.at fun o e => k4 _ o e) ta4 tb4 rfl rfl fun g5 z5 to5 j1 j2 p5 sz5 kk5 => ⟨_, #[], c4, rfl, kk5 L _ (ne _ _ (by omega)) (ne _ _ (by omega)) (ne _ _ (by omega)) (ne _ _ (by omega)) hs4, by decide, ?_⟩)
  have hs5 : g5.get? L = some (lstObj #[] c4) := kk5 L _ (ne _ _ (by omega)) (ne _ _ (by omega)) (ne _ _ (by omega)) (ne _ _ (by omega)) hs4
  have o6 : ∀ c o, c ≠ L → g5.get? c = some o → (g5.update L (Obj.mapSeq (·.push (Value.ref g4.objs.size)))).get? c = some o := fun c o n e => (Heap.get?_update_other _ _ (Ne.symm n)).trans e
  have hs6 := Heap.get?_update_self (Obj.mapSeq (·.push (Value.ref g4.objs.size))) hs5 rfl
  have sz6 : ((g5.update L (Obj.mapSeq (·.push (Value.ref g4.objs.size)))).objs.size : Nat) = N + 7 := by rw [Heap.size_after_update, sz5]; show (g4.objs.size : Nat) + 1 = _; omega
  show codeAny (model prog w) A.in1 _ _ { s1 with heap := g5.update L (Obj.mapSeq (·.push (Value.ref g4.objs.size))) }
  generalize g5.update L (Obj.mapSeq (·.push (Value.ref g4.objs.size))) = g6 at *
  obtain ⟨c6, hs6⟩ : ∃ c, g6.get? L = some (lstObj #[Value.ref g4.objs.size] c) := ⟨_, hs6⟩
  have q6 : IsPair g6 g4.objs.size u0 w0 := o6 _ _ (ne _ _ (by omega)) p5
  have z6 : IsZipHeld g6 (N + 4) (N + 2) (N + 3) g4.objs.size false := o6 _ _ (ne _ _ (by omega)) z5
  have t6 : IsPair g6 (N + 2) (.ref N) (.ref (N + 1)) := o6 _ _ (ne _ _ (by omega)) (kk5 _ _ (ne _ _ (by omega)) (ne _ _ (by omega)) (ne _ _ (by omega)) (ne _ _ (by omega)) (k4 _ _ hTI))
  have ta6 : g6.IsTuple a [u0, u1].toArray := kt (fun o e => o6 _ _ (ne _ _ (by omega)) (kk5 _ _ (ne _ _ (by omega)) (ne _ _ (by omega)) (ne _ _ (by omega)) (ne _ _ (by omega)) e)) ta4
  have tb6 : g6.IsTuple b [w0, w1].toArray := kt (fun o e => o6 _ _ (ne _ _ (by omega)) (kk5 _ _ (ne _ _ (by omega)) (ne _ _ (by omega)) (ne _ _ (by omega)) (ne _ _ (by omega)) e)) tb4
  refine ext_some (held_item (x := u1) (y := w1) D z6 q6 t6 (j1.at fun o e => o6 _ o (ne _ _ (by omega)) e) (j2.at fun o e => o6 _ o (ne _ _ (by omega)) e) ta6 tb6 rfl rfl fun g7 z7 m1 m2 p7 sz7 kk7 => ⟨_, #[Value.ref g4.objs.size], c6, rfl, kk7 L _ (ne _ _ (by omega)) (ne _ _ (by omega)) (ne _ _ (by omega)) hs6, (show 1 < sizeLine by decide), ?_⟩)
  have hs7 : g7.get? L = some (lstObj #[Value.ref g4.objs.size] c6) := kk7 L _ (ne _ _ (by omega)) (ne _ _ (by omega)) (ne _ _ (by omega)) hs6
  have o8 : ∀ c o, c ≠ L → g7.get? c = some o → (g7.update L (Obj.mapSeq (·.push (Value.ref g6.objs.size)))).get? c = some o := fun c o n e => (Heap.get?_update_other _ _ (Ne.symm n)).trans e
  have hs8 := Heap.get?_update_self (Obj.mapSeq (·.push (Value.ref g6.objs.size))) hs7 rfl
  show codeAny (model prog w) A.in1 _ _ { s1 with heap := g7.update L (Obj.mapSeq (·.push (Value.ref g6.objs.size))) }
  generalize g7.update L (Obj.mapSeq (·.push (Value.ref g6.objs.size))) = g8 at *
  obtain ⟨c8, hs8⟩ : ∃ c, g8.get? L = some (lstObj #[Value.ref g4.objs.size, Value.ref g6.objs.size] c) := ⟨_, hs8⟩
  have q8 : IsPair g8 g4.objs.size u0 w0 := o8 _ _ (ne _ _ (by omega)) (kk7 _ _ (ne _ _ (by omega)) (ne _ _ (by omega)) (ne _ _ (by omega)) q6)
  have r8 : IsPair g8 g6.objs.size u1 w1 := o8 _ _ (ne _ _ (by omega)) p7
  have z8 : IsZipHeld g8 (N + 4) (N + 2) (N + 3) g4.objs.size true := o8 _ _ (ne _ _ (by omega)) z7
  have t8 : IsPair g8 (N + 2) (.ref N) (.ref (N + 1)) := o8 _ _ (ne _ _ (by omega)) (kk7 _ _ (ne _ _ (by omega)) (ne _ _ (by omega)) (ne _ _ (by omega)) t6)
  have ta8 : g8.IsTuple a [u0, u1].toArray := let ⟨o, e, r⟩ := ta6; ⟨o, o8 _ _ (ne _ _ (by omega)) (kk7 _ _ (ne _ _ (by omega)) (ne _ _ (by omega)) (ne _ _ (by omega)) e), r⟩
  refine ext_none (held_end (k1 := 2) (k2 := 2) (ys := #[w0, w1]) hd D z8 q8 t8 (m1.at fun o e => o8 _ o (ne _ _ (by omega)) e) ta8 rfl fun g9 k9 => ⟨rfl, rfl, ?_⟩)
  have hc' : ∀ c : Nat, c < N → c ≠ N + 4 ∧ c ≠ N ∧ c ≠ N + 1 ∧ c ≠ L ∧ c ≠ N + 3 := fun c hc => by omega
  refine hQ g9 g4.objs.size g6.objs.size L (by omega) (by omega) (Nat.le_refl _) (ne _ _ (by omega)) (ne _ _ (by omega)) (ne _ _ (by omega)) (fun c o hc e => ?_) (k9 _ _ (ne _ _ (by omega)) (ne _ _ (by omega)) (ne _ _ (by omega)) q8) (k9 _ _ (ne _ _ (by omega)) (ne _ _ (by omega)) (ne _ _ (by omega)) r8) ⟨c8, k9 _ _ (ne _ _ (by omega)) (ne _ _ (by omega)) (ne _ _ (by omega)) hs8⟩
  obtain ⟨d1, d2, d3, d4, d5⟩ := hc' c hc
  exact k9 _ _ d1 d2 d3 (o8 _ _ d4 (kk7 _ _ d1 d2 d3 (o6 _ _ d4 (kk5 _ _ d1 d5 d2 d3 (k4 _ _ e)))))
theorem zip_list {X : Cx} {pins : List (Addr × Obj)} {σ : L2.St} {H1 : Hp} {s1 : Shared} {Q : VK} {a b : Addr} {x0 x1 y0 y1 : V} {u0 u1 w0 w1 : Value} {pos0 : Pos} (hd : X.A.handled = none) (I1 : Inv X pins σ H1 s1)
    (pa : IsTup s1.heap a [u0, u1].toArray) (pb : IsTup s1.heap b [w0, w1].toArray) (ru0 : RelV x0 u0) (ru1 : RelV x1 u1) (rw0 : RelV y0 w0) (rw1 : RelV y1 w1)
    (q1 : ∀ p0 p1 l, H1 p0 = none → H1 p1 = none → H1 l = none → p0 ≠ p1 → p0 ≠ l → p1 ≠ l → Q (.ref l) (upd (upd (upd H1 p0 (.tup [x0, y0])) p1 (.tup [x1, y1])) l (.lst [.ref p0, .ref p1]))) :
    wpAny (model X.prog X.w) X.A (call (.type "zip") [.ref a, .ref b]) (fun v s' => wpAny (model X.prog X.w) X.A (spliced (backTo pos0 (starEach [] X.env))) (fun vs s2 => wpAny (model X.prog X.w) X.A (call (.type "list") (v :: vs)) (EP X pins σ Q) X.xe s2) X.xe s') X.xe s1 := by
  obtain ⟨oa, hoa, _⟩ := id pa
  obtain ⟨ob, hob, _⟩ := id pb
  have la := Heap.lt_size hoa
  have lb := Heap.lt_size hob
  have D : ZipApart (s1.heap.objs.size + 4) (s1.heap.objs.size + 2) (s1.heap.objs.size + 3) s1.heap.objs.size (s1.heap.objs.size + 1) a b := PySem.W.ktu_apart _ a b la lb
  refine call_zipT (show s1.heap.IsTuple a [u0, u1].toArray from pa) (show s1.heap.IsTuple b [w0, w1].toArray from pb) fun h1 hz hTI hTO hi1 hi2 hsz hk => ?_
  have ta : h1.IsTuple a [u0, u1].toArray := let ⟨o, e, r⟩ := pa; ⟨o, hk _ _ e, r⟩
  have tb : h1.IsTuple b [w0, w1].toArray := let ⟨o, e, r⟩ := pb; ⟨o, hk _ _ e, r⟩
  generalize hN : s1.heap.objs.size = N at *
  refine Calls.spliced_nil ?_
  refine call_listZ hd D la lb hz hTI hTO hi1 hi2 hsz ta tb fun h2 p0 p1 l hp0 hp1 hl n01 n0l n1l hkk e0 e1 el => ?_
  have lo : ∀ {c : Addr}, h1.objs.size ≤ c → s1.heap.objs.size ≤ c := fun hc => by rw [hN]; rw [hsz] at hc; exact Nat.le_trans (Nat.le_add_right _ _) hc
  have kall : ∀ c o, s1.heap.get? c = some o → h2.get? c = some o := fun c o e => hkk c o (by have := Heap.lt_size e; rw [hN] at this; exact this) (hk c o e)
  have f0 : H1 p0 = none := I1.hok.fresh (lo hp0)
  have f1 : H1 p1 = none := I1.hok.fresh (lo hp1)
  have fl : H1 l = none := I1.hok.fresh (lo hl)
  have g1 : upd H1 p0 (.tup [x0, y0]) p1 = none := by rw [upd_ne (Ne.symm n01)]; exact f1
  have gl : upd (upd H1 p0 (.tup [x0, y0])) p1 (.tup [x1, y1]) l = none := by rw [upd_ne (Ne.symm n1l), upd_ne (Ne.symm n0l)]; exact fl
  have ok1 : HOk X.prog X.w (upd H1 p0 (.tup [x0, y0])) h2 := hok_add (I1.hok.kept kall) f0 ⟨by show 2 ≤ sizeLine; decide, [u0, w0], .cons ru0 (.cons rw0 .nil), _, e0, rfl, _, rfl⟩
  have ok2 : HOk X.prog X.w (upd (upd H1 p0 (.tup [x0, y0])) p1 (.tup [x1, y1])) h2 := hok_add ok1 g1 ⟨by show 2 ≤ sizeLine; decide, [u1, w1], .cons ru1 (.cons rw1 .nil), _, e1, rfl, _, rfl⟩
  obtain ⟨cl, el⟩ := el
  have ok3 : HOk X.prog X.w (upd (upd (upd H1 p0 (.tup [x0, y0])) p1 (.tup [x1, y1])) l (.lst [.ref p0, .ref p1])) h2 := hok_add ok2 gl ⟨by show 2 ≤ sizeLine; decide, [.ref p0, .ref p1], cl, .cons rfl (.cons rfl .nil), el⟩
  have un3 := un_add (o := .lst [.ref p0, .ref p1]) (un_add (o := .tup [x1, y1]) (un_add (o := .tup [x0, y0]) (Un.kept (fs := X.fs) (ex := []) (H := H1) kall) f0 (lo hp0)) g1 (lo hp1)) gl (lo hl)
  exact ⟨.ref l, _, Inv.un (t' := s1.toks) I1 un3 ok3, rfl, q1 p0 p1 l f0 f1 fl n01 n0l n1l⟩
/-- two pairs, zipped into a list -/
def tLZ (K : PySem.W.Frag) (ta : TA) : TE := fun σ H Q => ta σ H fun vs H1 => ∃ a b x0 x1 y0 y1, vs = [.ref a, .ref b] ∧ SqT K H1 a [x0, x1] ∧ SqT K H1 b [y0, y1] ∧
  ∀ p0 p1 l, H1 p0 = none → H1 p1 = none → H1 l = none → p0 ≠ p1 → p0 ≠ l → p1 ≠ l → Q (.ref l) (upd (upd (upd H1 p0 (.tup [x0, y0])) p1 (.tup [x1, y1])) l (.lst [.ref p0, .ref p1]))
theorem pe_listZip {X : Cx} {e e2 : Expr} {ta : TA} {p q pos pos2 : Pos} (hgl : Gl X "list") (hml : X.mg "list" = none) (hg : Gl X "zip") (hm : X.mg "zip" = none) (hc : X.calm = true) (ha : PA X [e, e2] ta)
    (hs : starEach [e, e2] X.env = (false, eval e X.env) :: starEach [e2] X.env := by rfl) (hpl : (backTo pos2 (starEach [e2] X.env)).any (·.1) = false := by rfl)
    (hs1 : starEach [.Call (.Name "zip" q) [e, e2] [] pos2] X.env = (false, eval (.Call (.Name "zip" q) [e, e2] [] pos2) X.env) :: starEach [] X.env := by rfl) (hpl1 : (backTo pos (starEach [] X.env)).any (·.1) = false := by rfl) :
    PE X (.Call (.Name "list" p) [.Call (.Name "zip" q) [e, e2] [] pos2] [] pos) (tLZ X.K ta) := by
  refine ⟨fun pins s σ H Q I h => ?_⟩
  have hd : X.A.handled = none := I.ok.hd hc
  have bl : bootBuiltins "list" = some (.type "list") := by decide +kernel
  refine wpAny_Call_Name_kw (ld_blt I hgl hml bl ?_)
  refine PyProof.Rows.callWith_type1 ?_ hs1 hpl1
  rw [hs1]
  show wpAny _ _ (spliced ((false, eval (.Call (.Name "zip" q) [e, e2] [] pos2) X.env) :: backTo pos (starEach [] X.env))) _ _ s
  refine Calls.spliced_cons ?_
  refine wpAny_Call_Name_kw (ld_blt I hg hm PyProof.Rows.boot_zip ?_)
  refine PyProof.Rows.callWith_type1 (thn (ha.run pos2 pins s σ H _ I h) fun us s1 h1 => ?_) hs hpl
  obtain ⟨vs, H1, I1, r1, q1⟩ := h1
  obtain ⟨a, b, x0, x1, y0, y1, rfl, ta1, tb1, q1⟩ := q1
  obtain ⟨ua, ub, rfl, ra, rb⟩ := vals2 r1
  obtain rfl : ua = Value.ref a := ra
  obtain rfl : ub = Value.ref b := rb
  obtain ⟨its, rv, pa, _⟩ := I1.tuple ta1
  obtain ⟨its2, rv2, pb, _⟩ := I1.tuple tb1
  obtain ⟨u0, u1, rfl, ru0, ru1⟩ := vals2 rv
  obtain ⟨w0, w1, rfl, rw0, rw1⟩ := vals2 rv2
  refine zip_list hd I1 pa pb ru0 ru1 rw0 rw1 q1
end LZ

namespace PL
open PySem PySem.Spec PyProof.Rows L2 FR
variable [Nm]
section
variable {K : PySem.W.Frag} {ρ ρ1 : Rho} {I J L N : Asn} {ta tb tc te : TE} {d e : Dat} {t u : TT} {b c : Bool} {ts us : TS} {k : Out} {tr : TA} {q : Addr} {ds : List PyData} {x : PyData}
/-- a comprehension over a list, any target -/
theorem e_lcG {tl : TE} {g : TG} {vs : List Nat} {es : List PyData} (hl : E K tl ρ I (.d (.list ds)) I) (hn : es.length = ds.length) (hz : ds.length ≤ 100000)
    (he : ∀ (i : Nat) x y, ds[i]? = some x → es[i]? = some y → ∃ ρ', GW K g vs x (wipeR ρ vs) ρ' ∧ ∀ I', E K te ρ' I' (.d y) I') : E K (tLc (iList K tl) g tYes te vs) ρ I (.d (.list es)) I := fun G H σ gh en io Q q =>
  hl G H σ gh en io _ fun v G1 H1 g1 gh1 j1 dv => by
    cases dv with
    | lst s r =>
      rename_i a xs
      refine ⟨a, rfl, ⟨_, gh1.seq s⟩, fun D hD => ?_⟩
      have gD : G1 D = none := gh1.free hD
      have lx := dpa_len r
      have nD : ∀ a, I.foot a → ¬ a = D := fun a fa z => by
        obtain ⟨o, ho⟩ := I.own G1 H1 a j1 fa
        rw [z, hD] at ho
        cases ho
      refine lc_list (xs := xs) (fun i H' => ∃ G', Same G1 G' ∧ Same G' H' ∧ I.ok G' H' ∧ (lA K D (es.take i)).ok G' H' ∧ Stp (· = D) G1 (upd H1 D (.lst [])) G' H') ?_ (fun i H' _ ⟨G', a1, a2, _⟩ => (a1.trans a2).seq s) (fun i x H' hx ⟨G', a1, a2, a3, a4, a5⟩ => ?_) (fun H' ⟨G', a1, a2, a3, a4, a5⟩ => ?_)
      · have st := Stp.newM (o := HO.lst []) gh1 hD
        exact ⟨G1, Same.refl _, st.gh, Asn.pure_st st j1, ⟨gD, [], upd_same, .nil⟩, Stp.refl st.gh⟩
      · have hi : i < xs.length := (List.getElem?_eq_some_iff.mp hx).1
        have hi2 : i < ds.length := by omega
        have hi3 : i < es.length := by omega
        obtain ⟨w, h1, h2⟩ := dpa_get r (List.getElem?_eq_getElem hi2)
        rw [hx] at h1
        obtain rfl := Option.some.inj h1
        obtain ⟨ρ', hg, hel⟩ := he i _ _ (List.getElem?_eq_getElem hi2) (List.getElem?_eq_getElem hi3)
        refine hg G' H' _ x _ a2 (env_wipe (env_mono (g1.trans a1) en) vs) (dp_mono a1 _ _ h2) fun σ' en' hw => ⟨hw.trans (wipe_wipe σ vs), ?_⟩
        refine hel (((lA K D (es.take i)).and I).and (Asn.since (· = D) G1 (upd H1 D (.lst [])))) G' H' _ a2 en' ⟨⟨a4, a3⟩, a5⟩ _ fun y G2 H2 g2 gh2 j2 dy => ?_
        obtain ⟨⟨⟨gq, vs', hq, r2⟩, i2⟩, st2⟩ := j2
        have st := Stp.store (o := HO.lst (vs' ++ [y])) gh2 gq hq
        refine ⟨vs', hq, ?_, G2, a1.trans g2, st.gh, ?_, ⟨gq, _, upd_same, ?_⟩, st2.trans st⟩
        · rw [dpa_len r2, List.length_take]
          exact Nat.lt_of_le_of_lt (Nat.min_le_left _ _) (Nat.lt_of_le_of_lt (show i ≤ 100000 by omega) (by decide))
        · exact I.st _ _ _ _ _ nD st i2
        · rw [List.take_add_one, List.getElem?_eq_getElem hi3]
          exact dpa_app r2 (.cons dy .nil)
      · obtain ⟨gq, vs', hq, r2⟩ := a4
        have st : Stp (· = D) G' H' (upd G' D (.lst vs')) H' := Stp.frz a2 gq hq
        refine q _ (upd G' D (.lst vs')) H' ((g1.trans a1).trans st.gg) st.gh (I.st _ _ _ _ _ nD st a3) (.lst (.inl (.inl upd_same)) (dp_monos st.gg _ vs' ?_))
        rw [show es = es.take xs.length by rw [List.take_of_length_le (by omega)]]
        exact r2
/-- two pairs, zipped into a list -/
theorem e_listZip {x0 x1 y0 y1 : PyData} (hr : A K tr ρ I [.t [x0, x1], .t [y0, y1]] J) : E K (LZ.tLZ K tr) ρ I (.d (.list [.tuple [x0, y0], .tuple [x1, y1]])) J := fun G H σ gh en io Q q =>
  hr G H σ gh en io _ fun vs G1 H1 g1 gh1 j1 dvs => by
    obtain ⟨v, w, rfl, h1, h2⟩ := dva2 dvs
    cases h1 with
    | tup s r =>
      cases h2 with
      | tup s2 r2 =>
        cases r with
        | cons a0 r =>
          cases r with
          | cons a1 r =>
            cases r
            cases r2 with
            | cons b0 r2 =>
              cases r2 with
              | cons b1 r2 =>
                cases r2
                rename_i pa pb vx0 vx1 vy0 vy1
                refine ⟨_, _, _, _, _, _, rfl, same_t gh1 s, same_t gh1 s2, fun p0 p1 l f0 f1 fl n01 n0l n1l => ?_⟩
                have s1 := Stp.new (o := .tup [vx0, vy0]) gh1 f0
                have f1' : (upd H1 p0 (.tup [vx0, vy0])) p1 = none := by rw [upd_ne n01.symm]; exact f1
                have s2' := Stp.new (o := .tup [vx1, vy1]) s1.gh f1'
                have fl' : (upd (upd H1 p0 (.tup [vx0, vy0])) p1 (.tup [vx1, vy1])) l = none := by rw [upd_ne n1l.symm, upd_ne n0l.symm]; exact fl
                have s3 := Stp.new (o := .lst [.ref p0, .ref p1]) s2'.gh fl'
                have st := (s1.trans s2').trans s3
                refine q _ _ _ (g1.trans st.gg) st.gh (Asn.pure_st st j1) (.lst (.inl (.inl upd_same)) ?_)
                refine .cons (.tup (.inl (.inl ?_)) (.cons (dp_mono st.gg _ _ a0) (.cons (dp_mono st.gg _ _ b0) .nil))) (.cons (.tup (.inl (.inl ?_)) (.cons (dp_mono st.gg _ _ a1) (.cons (dp_mono st.gg _ _ b1) .nil))) .nil)
                · rw [upd_ne n0l, upd_ne n01, upd_same]
                · rw [upd_ne n1l, upd_same]
end
end PL

/-! defs called within an except suite, with the caught error; try statements of any body -/
namespace PX
open PySem PySem.Spec PyProof.Rows L2 L2H

/-- what a def promises to a caller that may hold a caught error; p: that error's object -/
structure FnP (P : Program) (w : World) (K : PySem.W.Frag) (mg : Str → Option Value) (base : Heap) (k : Nat) (f : Addr) (fd : FuncData) (ps : List Str) (sp : Addr × Obj → Sp) : Prop where
  many : ∀ p vs H Q E, sp p vs H Q E → vs.length = ps.length
  goes : ∀ (A : Around) (outer : List Env) (s : Shared) (H : Hp) (args : Args) (us : List Value) (vs : List V) (Q : VK) (E : XK) (p : Addr × Obj), sp p vs H Q E → Vals vs us → BindsTo s fd args (ps.zip us) → Env0 P w K mg base A outer s H →
    PinOk outer H s p → RoomH k A → codeAny (model P w) A (.call (.ref f) args) (CR CX0 outer P w H s Q E) s

section
variable {P : Program} {w : World} {K : PySem.W.Frag} {mg : Str → Option Value} {base : Heap}
theorem def_pin {x qual : Str} {st : Stmt} {f : Addr} {fd : FuncData} {N ps : List Str} {k : Nat} {sp : Addr × Obj → Sp} (F : Fun K x qual st f fd) (sc : FnScope N ps (defScope st)) (hl : ∀ p vs H Q E, sp p vs H Q E → vs.length = ps.length)
    (body : ∀ (cdv : Value) (A : Around) (outer : List Env) (s : Shared) (H : Hp) (vs : List V) (Q : VK) (E : XK) (p : Addr × Obj), RoomH k (A.deeper (envOfC qual (defScope st) s.heap.objs.size f cdv)) → sp p vs H Q E →
      ∃ t, PSs (cxH CX0 P w K mg base N qual (defScope st) f cdv A outer s H E p) (defBody st) t ∧ t { nx := fun _ H' => Q .non H', rt := Q } (L2.start N vs) H) : FnP P w K mg base (k + 1) f fd ps sp := by
  obtain ⟨oc, od, kV, doc, pm, an, cd, ct, osl, rfl, at_, cdo⟩ := F.ex
  refine { many := hl, goes := fun A outer s H args us vs Q E p hsp rel bnd en pin room => ?_ }
  have inK : K.In s.heap := en.mod.kin.keeps fun b o z => (en.bs b o z).1
  have free : s.heap.NoLimit := en.mod.nolimit.keeps fun b o z => (en.bs b o z).1
  have kinds : ∀ y ∈ ps.zip us, (defScope st).names.lookup y.1 = some .local ∨ ((defScope st).names.lookup y.1 = some .cell ∧ ((cellsFrom (s.heap.objs.size + 1) (defScope st).names []).lookup y.1).isSome = true) := by
    rintro ⟨n, v⟩ hy
    exact (sc.par n (List.of_mem_zip hy).1).imp id fun q => ⟨q, PySem.W.cellsFrom_some _ _ _ (.inl q)⟩
  refine codeAny_call_function room.depth (inK _ _ at_) rfl sc.co sc.gen rfl (PySem.W.codeRec_of inK cdo) (bnd _ _ _ _ (wpAny_newFunctionEnv_cells sc.kind kinds fun env e s1 ic => ?_))
  subst e
  obtain ⟨t, hp, ht⟩ := body cd A outer s H vs Q E p (room.deeper _) hsp
  have J : Inv (cxH CX0 P w K mg base N qual (defScope st) f cd A outer s H E p) [] (L2.start N vs) H s1 := inv_startH sc pin en (hl _ _ _ _ _ hsp) rel ic
  refine ⟨free.keeps ic.toInCall.keep, codeAny_func (wpAny_mono (hp.run [] s1 (L2.start N vs) H _ J ht) (fun fl s2 h2 => ?_) fun _ _ z => z)⟩
  match fl, h2 with
  | .ret u, ⟨v, σ', H', I2, rv, q⟩ => exact ⟨v, H', I2.os, I2.bare, I2.base, I2.hok, rv, q⟩
  | .next, ⟨σ', H', I2, q⟩ => exact ⟨V.non, H', I2.os, I2.bare, I2.base, I2.hok, rfl, q⟩
  | .brk, ⟨_, _, _, q⟩ => exact False.elim q
  | .cont, ⟨_, _, _, q⟩ => exact False.elim q
end

/-! ### isinstance of the caught error -/
def tIsP (K : PySem.W.Frag) (a : Addr) (cls : Value) (dd : Option Addr) (C : Addr) (te : TE) : TE := fun σ H Q => te σ H fun x H1 => ∃ (D : Addr) (b : Bool), [x, V.ref C] = [V.ref a, V.ref C] ∧ cls = .ref D ∧ dd = none ∧ ExcC K D ∧ PySem.W.kitOne K (.ref D) (.ref C) = some b ∧ Q (.bl b) H1
section
variable {X : Cx} {q : Addr × Obj} {C D : Addr} {cls : Value} {dd : Option Addr} {y : Str} {r r2 pos : Pos} {e : Expr} {te : TE}
theorem inst_of {pins : List (Addr × Obj)} {σ : L2.St} {H : Hp} {s : Shared} (I : Inv X pins σ H s) (hq : q ∈ X.pn) (hz : Zc (.ref D) none q.2) (hf : ∃ us, q.2.data = .fields us) : PySem.W.InstAt s.heap q.1 q.2 D none := by
  have hget := (I.pin q (List.mem_append_left _ hq)).1
  obtain ⟨a, oc, od, dt, sl⟩ := q
  obtain ⟨us, hu⟩ := hf
  obtain ⟨z1, z2⟩ := hz
  dsimp only at z1 z2 hu hget ⊢
  subst z1 z2 hu
  exact ⟨hget, rfl, rfl, trivial⟩
theorem pe_isP (hq : q ∈ X.pn) (hz : Zc cls dd q.2) (hf : ∃ us, q.2.data = .fields us) (he : PE X e te) (hg : Gl X ("isinstance" : Str)) (hm : X.mg "isinstance" = none) (hgy : Gl X y) (hmy : X.mg y = some (.ref C)) (hdb : (y == ("__debug__" : Str)) = false := by decide)
    (hs : starEach [e, .Name y r2] X.env = (false, eval e X.env) :: starEach [.Name y r2] X.env := by rfl) (hp : (backTo pos (starEach [.Name y r2] X.env)).any (·.1) = false := by rfl) : PE X (.Call (.Name "isinstance" r) [e, .Name y r2] [] pos) (tIsP X.K q.1 cls dd C te) := by
  refine ⟨fun pins s σ H Q I h => ?_⟩
  have boot : bootBuiltins "isinstance" = some (.builtin "isinstance") := by decide +kernel
  refine wpAny_Call_Name_kw (ld_blt I hg hm boot (PyProof.Rows.callWith_builtin1 ?_ hs hp))
  have both : PA X [e, .Name y r2] (tCons te (tCons (tC (.ref C)) tNil)) := pa_cons he (pa_cons (pe_glob hgy hmy rfl hdb) pa_nil rfl) hs
  refine thn (both.run pos pins s σ H (fun vs H1 => ∃ (D : Addr) (b : Bool), vs = [V.ref q.1, V.ref C] ∧ cls = .ref D ∧ dd = none ∧ ExcC X.K D ∧ PySem.W.kitOne X.K (.ref D) (.ref C) = some b ∧ Q (.bl b) H1) I ?_) fun us s1 ⟨vs, H1, I1, r1, D, b, ev, ec, ed, hD, hk, hQ⟩ => ?_
  · exact h
  · subst ev ec ed
    cases r1 with
    | cons ra rr =>
      cases rr with
      | cons rb rr =>
        cases rr
        cases ra
        cases rb
        exact PySem.W.kia_one (PySem.W.handS_kitx_exc hD.hg hD.hk hD.hs hD.hd hD.ha hD.hn hD.ht hD.hm) I1.kIn (inst_of I1 hq hz hf) hk (fun z => nomatch z) fun tk => ⟨.bl b, H1, I1.kept (t' := tk) fun _ _ z => z, rfl, hQ⟩
theorem pe_isS {a : Addr} {oe : Obj} {pn : List (Addr × Obj)} (hz : Zc cls dd oe) (hf : ∃ us, oe.data = .fields us) (he : PE (X.suite a ((a, oe) :: pn)) e te) (hg : Gl X ("isinstance" : Str)) (hm : X.mg "isinstance" = none) (hgy : Gl X y) (hmy : X.mg y = some (.ref C)) (hdb : (y == ("__debug__" : Str)) = false := by decide)
    (hs : starEach [e, .Name y r2] X.env = (false, eval e X.env) :: starEach [.Name y r2] X.env := by rfl) (hp : (backTo pos (starEach [.Name y r2] X.env)).any (·.1) = false := by rfl) :
    PE (X.suite a ((a, oe) :: pn)) (.Call (.Name "isinstance" r) [e, .Name y r2] [] pos) (tIsP X.K a cls dd C te) :=
  pe_isP (X := X.suite a ((a, oe) :: pn)) (q := (a, oe)) List.mem_cons_self hz hf he hg hm hgy hmy hdb hs hp
end
/-! ### the call -/
def tCallP (sp : Addr × Obj → Sp) (a : Addr) (cls : Value) (dd : Option Addr) (t : TA) : TE := fun σ H Q => t σ H fun vs H1 => ∀ oe, Zc cls dd oe → (∃ us, oe.data = .fields us) → sp (a, oe) vs H1 Q fun _ _ _ => False
section
variable {X : Cx} {a f : Addr} {oe : Obj} {pn : List (Addr × Obj)} {k : Nat} {fd : FuncData} {ps : List Str} {sp : Addr × Obj → Sp} {cls : Value} {dd : Option Addr} {x : Str} {r pos : Pos} {e : Expr} {es : List Expr} {t : TA}
theorem pe_callP (F : FnP X.prog X.w X.K X.mg X.base k f fd ps sp) (room : Room k X.A) (hz : Zc cls dd oe) (hf : ∃ us, oe.data = .fields us) (hg : Gl X x) (hm : X.mg x = some (.ref f)) (hk : PySem.W.keepIn X.K (.ref f) = true) (hb : Binds X.K fd ps []) (ha : PA (X.suite a ((a, oe) :: pn)) (e :: es) t)
    (hdb : (x == ("__debug__" : Str)) = false := by decide) (hs : starEach (e :: es) X.env = (false, eval e X.env) :: starEach es X.env := by rfl) (hp : (backTo pos (starEach es X.env)).any (·.1) = false := by rfl) :
    PE (X.suite a ((a, oe) :: pn)) (.Call (.Name x r) (e :: es) [] pos) (tCallP sp a cls dd t) := by
  refine ⟨fun pins s σ H Q I h => ?_⟩
  refine wpAny_Call_Name_kw (ld_glob I hg hm ?_ hdb)
  refine PySem.W.callWith_K (h₀ := X.base) I.ok.mod.kin hk (thn (ha.run pos pins s σ H _ I h) fun us s1 ⟨vs, H1, I1, rel, q⟩ => ⟨I1.kIn, ?_⟩) hs hp
  have q := q oe hz hf
  have P1 := I1.pin (a, oe) (List.mem_append_left _ List.mem_cons_self)
  have pin : PinOk X.stack H1 s1 (a, oe) := { get := P1.1, free := P1.2.1, nofs := fun z => (List.mem_cons.mp (I1.stkSub _ z)).elim P1.2.2.1 P1.2.2.2.1, nocell := P1.2.2.2.2 }
  have hl : (us ++ []).length = ps.length := by rw [List.append_nil, ← rel.length, F.many _ _ _ _ _ q]
  have bnd := hb s1 us I1.kIn hl
  rw [List.append_nil] at bnd
  refine wpAny_call (codeAny_mono (F.goes _ _ s1 H1 _ us vs Q _ (a, oe) q rel bnd I1.env0 pin ⟨room.dp, room.un⟩) fun res s2 h2 => ?_)
  match res, h2 with
  | .ok (.ret u), h2 => exact I1.after h2
  | .ok .next, h2 => exact False.elim h2
  | .ok .brk, h2 => exact False.elim h2
  | .ok .cont, h2 => exact False.elim h2
  | .error _, h2 => exact False.elim h2
end
/-! ### try statements: what is told of the body by the wish -/
def tTryAs (K : PySem.W.Frag) (c : Value) (i : Nat) (ts : Addr → Value → Option Addr → TS) (Wo : WX) (tb : WX → TS) : TS := fun D σ H => tb (wAs K c i ts Wo D) D σ H
def tTryO (K : PySem.W.Frag) (c : Value) (ts : Addr → Value → Option Addr → TS) (Wo : WX) (tb : WX → TS) : TS := fun D σ H => tb (wOnly K c ts Wo D) D σ H
section
variable {X : Cx} {x n : Str} {c : Value} {i : Nat} {B R : List Stmt} {b : Stmt} {p1 p2 p3 : Pos} {tb : WX → TS} {ts : Addr → Value → Option Addr → TS} {Wo : WX}
theorem tryAs (h1 : X.stack = X.env :: X.outer) (h2 : X.env.frame = some X.env.locals) (h3 : X.N.Nodup) (h4 : X.N[i]? = some n) (h5 : X.env.kindOf n = some .local) (h6 : Names X x c) (h7 : Takes X Wo)
    (hB : ∀ (W : WX) (q : List (Addr × Obj)) (e : Value → Shared → Prop), Takes (X.tr q e) W → PassesOwn (model X.prog X.w) X.A X.env e → PSs (X.tr q e) B (tb W))
    (hR : ∀ (a : Addr) (oe : Obj) (k : Value) (d : Option Addr) (q : List (Addr × Obj)), Zc k d oe → (∃ us, oe.data = .fields us) → PSs (X.suite a ((a, oe) :: q)) (b :: R) (ts a k d)) :
    PS X (.Try B [.ExceptHandler (some (.Name x p1)) (some n) (b :: R) p2] [] [] p3) (tTryAs X.K c i ts Wo tb) := ps_try_as h1 h2 h3 h4 h5 h6 h7 hB hR
theorem tryO (h1 : X.stack = X.env :: X.outer) (h2 : X.env.frame = some X.env.locals) (h6 : Names X x c) (h7 : Takes X Wo)
    (hB : ∀ (W : WX) (q : List (Addr × Obj)) (e : Value → Shared → Prop), Takes (X.tr q e) W → PassesOwn (model X.prog X.w) X.A X.env e → PSs (X.tr q e) B (tb W))
    (hR : ∀ (a : Addr) (oe : Obj) (k : Value) (d : Option Addr) (q : List (Addr × Obj)), Zc k d oe → (∃ us, oe.data = .fields us) → PSs (X.suite a ((a, oe) :: q)) (b :: R) (ts a k d)) :
    PS X (.Try B [.ExceptHandler (some (.Name x p1)) none (b :: R) p2] [] [] p3) (tTryO X.K c ts Wo tb) := ps_try_only h1 h2 h6 h7 hB hR
end
end PX
namespace PL
open PySem PySem.Spec PyProof.Rows L2 FR GX PX
variable [Nm]
section
variable {K : PySem.W.Frag} {ρ ρ1 : Rho} {I J L N : Asn} {ta tb te : TE} {d e : Dat} {t u : TT} {b c : Bool} {ts us : TS} {k : Out} {tr : TA} {ds : List Dat} {tabs : Tbs}
/-- of an error of the class at D a def hands back d -/
def spCls (K : PySem.W.Frag) (R : Addr → Dat → Prop) : Addr × Obj → Sp := fun p vs H Q _ => ∃ G D d, vs = [V.ref p.1] ∧ Zc (.ref D) none p.2 ∧ (∃ us, p.2.data = .fields us) ∧ R D d ∧ Same G H ∧ ∀ v G2 H2, Stp NoA G H G2 H2 → Dv K G2 v d → Q v H2
theorem len_C {R : Addr → Dat → Prop} {p : Addr × Obj} {vs : List V} {H : Hp} {Q : VK} {X : XK} (h : spCls K R p vs H Q X) : vs.length = 1 := by
  obtain ⟨_, _, _, rfl, _⟩ := h
  rfl
theorem zc_C {R : Addr → Dat → Prop} {p : Addr × Obj} {vs : List V} {H : Hp} {Q : VK} {X : XK} (h : spCls K R p vs H Q X) : Zc p.2.cls p.2.dict p.2 ∧ ∃ us, p.2.data = .fields us := by
  obtain ⟨_, _, _, _, _, h, _⟩ := h
  exact ⟨⟨rfl, rfl⟩, h⟩
theorem body_C {R : Addr → Dat → Prop} {p : Addr × Obj} {n : List Str} {vs : List V} {H : Hp} {Q : VK} {X : XK} (hb : ∀ D d, R D d → p.2.cls = .ref D → p.2.dict = none → ∀ I, S K ts (some (.r p.1) :: List.replicate (n.length - 1) none) I (.rt d I)) (h : spCls K R p vs H Q X) :
    ts { nx := fun _ H' => Q .non H', rt := Q } (L2.start n vs) H := by
  obtain ⟨G, D, d, rfl, z, _, r, gh, q⟩ := h
  refine hb D d r z.1 z.2 (Asn.since NoA G H) G H _ _ gh ?_ (Stp.refl gh) fun v G2 H2 g2 gh2 j2 dv => q v G2 H2 j2 dv
  exact env_start (vs := [V.ref p.1]) (ds := [.r p.1]) _ ⟨rfl, trivial⟩
theorem e_isP {a D C : Addr} {cls : Value} {dd : Option Addr} (ha : E K te ρ I (.r a) J) (hc : cls = .ref D) (hd : dd = none) (hD : ExcC K D) (hk : PySem.W.kitOne K (.ref D) (.ref C) = some b) : E K (tIsP K a cls dd C te) ρ I (.b b) J := fun G H σ gh en io Q q =>
  ha G H σ gh en io _ fun x G1 H1 g1 gh1 j1 dx => ⟨D, b, by rw [show x = V.ref a from dx], hc, hd, hD, hk, q _ G1 H1 g1 gh1 j1 (.bl b)⟩
theorem e_callP {a D : Addr} {R : Addr → Dat → Prop} (hr : A K tr ρ I [.r a] J) (h : R D d) : E K (tCallP (spCls K R) a (.ref D) none tr) ρ I d J := fun G H σ gh en io Q q =>
  hr G H σ gh en io _ fun vs G1 H1 g1 gh1 j1 dvs oe hz hf => by
    obtain ⟨v, rfl, h1⟩ := dva1 dvs
    exact ⟨G1, D, d, by rw [show v = V.ref a from h1], hz, hf, h, gh1, fun v G2 H2 s dv => q v G2 H2 (g1.trans s.gg) s.gh (Asn.pure_st s j1) dv⟩
theorem kit_same {K : PySem.W.Frag} {D : Addr} : PySem.W.kitOne K (.ref D) (.ref D) = some true := by
  unfold PySem.W.kitOne
  rw [if_pos]
  simp
theorem kit_other {C D : Addr} (h : PySem.W.hasDictIn K C = true) (ht : PySem.W.typeIn K (.ref C) = some (.type "type")) (hr : PySem.W.subIn K (.ref C) (.ref C) = some true) (hs : PySem.W.subIn K (.ref D) (.ref C) = some false) : PySem.W.kitOne K (.ref D) (.ref C) = some false := by
  obtain ⟨cd, hc, _⟩ := PySem.W.any_some h
  have e1 : ((Value.ref D) == (Value.ref C)) = false := by
    refine Bool.eq_false_iff.mpr fun q => ?_
    have e : D = C := Value.ref.inj (beq_iff_eq.mp q)
    rw [e, hr] at hs
    cases hs
  have e2 : ((PySem.W.clsIn K C).isSome && PySem.W.typeIn K (.ref C) == some (.type "type")) = true := by rw [hc, ht] <;> rfl
  unfold PySem.W.kitOne
  rw [e1, if_neg Bool.false_ne_true]
  show (if ((PySem.W.clsIn K C).isSome && PySem.W.typeIn K (.ref C) == some (.type "type")) = true then _ else none) = some false
  rw [if_pos e2]
  exact hs
/-! ### try statements of any body -/
def Asn.frm (G0 : Hp) : Asn := ⟨NoA, fun G _ => Same G0 G, fun _ _ _ _ _ _ s h => h.trans s.gg, fun _ _ _ _ z => z.elim⟩
/-- nothing is raised -/
theorem s_tryN {tb : WX → TS} {i : Nat} {c : Value} {tsu : Addr → Value → Option Addr → TS} {Wo : WX} (h : ∀ W, S K (tb W) ρ I k) : S K (tTryAs K c i tsu Wo tb) ρ I k := fun G H σ D gh en io f => h (wAs K c i tsu Wo D) G H σ D gh en io f
theorem s_tryNO {tb : WX → TS} {c : Value} {tsu : Addr → Value → Option Addr → TS} {Wo : WX} (h : ∀ W, S K (tb W) ρ I k) : S K (tTryO K c tsu Wo tb) ρ I k := fun G H σ D gh en io f => h (wOnly K c tsu Wo D) G H σ D gh en io f
theorem e_callSX {R : List Dat → Res → Prop} {W : WX} [hT : HasT tabs J] (hr : A K tr ρ I ds J) (h : R ds (.ok d)) : E K (tCallS (spXT K tabs R) (WE W) tr) ρ I d J := fun G H σ gh en io Q q => hr G H σ gh en io _ fun vs G1 H1 g1 gh1 j1 dvs =>
  ⟨G1, ds, .ok d, gh1, dvs, h, hT.get _ _ j1, fun v G2 H2 s dv => q v G2 H2 (g1.trans s.gg) s.gh (Asn.pure_st s j1) dv⟩
/-- a call that raises within a try -/
theorem e_callSE {R : List Dat → Res → Prop} {W : WX} {C : Addr} [hT : HasT tabs J] (hr : A K tr ρ I ds J) (h : R ds (.err C)) (hW : ∀ G H σ, Same G H → EnvD K G σ ρ → J.ok G H → W (.ref C) none σ H) : E K (tCallS (spXT K tabs R) (WE W) tr) ρ I d L := fun G H σ gh en io Q q => hr G H σ gh en io _ fun vs G1 H1 g1 gh1 j1 dvs =>
  ⟨G1, ds, .err C, gh1, dvs, h, hT.get _ _ j1, fun G2 H2 s => hW G2 H2 σ s.gh (env_mono (g1.trans s.gg) en) (Asn.pure_st s j1)⟩
abbrev Out.nil : Out := .fin fun _ _ _ => False
/-- an error of the class C is raised, which the suite holds -/
theorem s_tryXAs {tb : WX → TS} {j : Nat} {c : Value} {C : Addr} {tsu : Addr → Value → Option Addr → TS} {Wo : WX} {ρx : Rho} {Jx L : Asn} (he : PySem.W.exmOne K (.ref C) c = some true) (hs : ∀ a, S K (tsu a (.ref C) none) (ρx.set j (some (.r a))) Jx (.rt d L))
    (hb : ∀ (W : WX) (G0 : Hp), (∀ G H σ, Same G0 G → Same G H → EnvD K G σ ρx → Jx.ok G H → W (.ref C) none σ H) → S K (tb W) ρ (I.and (Asn.frm G0)) .nil) : S K (tTryAs K c j tsu Wo tb) ρ I (.rt d L) := fun G H σ D gh en io f =>
  hb (wAs K c j tsu Wo D) G (fun G1 H1 σ1 g1 gh1 en1 j1 => ⟨true, he, fun _ a na => hs a G1 H1 _ _ gh1 (env_set (d := .r a) rfl en1) j1 fun v G3 H3 g3 => f v G3 H3 (g1.trans g3), fun z => nomatch z⟩) G H σ D gh en ⟨io, Same.refl G⟩ fun _ _ _ _ _ z => z.elim
theorem s_tryXAsN {tb : WX → TS} {j : Nat} {c : Value} {C : Addr} {tsu : Addr → Value → Option Addr → TS} {Wo : WX} {ρx ρ2 : Rho} {Jx L : Asn} (he : PySem.W.exmOne K (.ref C) c = some true) (hs : ∀ a, S K (tsu a (.ref C) none) (ρx.set j (some (.r a))) Jx (.nx ρ2 L))
    (hb : ∀ (W : WX) (G0 : Hp), (∀ G H σ, Same G0 G → Same G H → EnvD K G σ ρx → Jx.ok G H → W (.ref C) none σ H) → S K (tb W) ρ (I.and (Asn.frm G0)) .nil) : S K (tTryAs K c j tsu Wo tb) ρ I (.nx (ρ2.set j none) L) := fun G H σ D gh en io f =>
  hb (wAs K c j tsu Wo D) G (fun G1 H1 σ1 g1 gh1 en1 j1 => ⟨true, he, fun _ a na => hs a G1 H1 _ _ gh1 (env_set (d := .r a) rfl en1) j1 fun G3 H3 σ3 g3 gh3 en3 j3 => f G3 H3 _ (g1.trans g3) gh3 (env_none en3) j3, fun z => nomatch z⟩) G H σ D gh en ⟨io, Same.refl G⟩ fun _ _ _ _ _ z => z.elim
theorem s_tryXO {tb : WX → TS} {c : Value} {C : Addr} {tsu : Addr → Value → Option Addr → TS} {Wo : WX} {ρx : Rho} {Jx : Asn} (he : PySem.W.exmOne K (.ref C) c = some true) (hs : ∀ a, S K (tsu a (.ref C) none) ρx Jx k)
    (hb : ∀ (W : WX) (G0 : Hp), (∀ G H σ, Same G0 G → Same G H → EnvD K G σ ρx → Jx.ok G H → W (.ref C) none σ H) → S K (tb W) ρ (I.and (Asn.frm G0)) .nil) : S K (tTryO K c tsu Wo tb) ρ I k := fun G H σ D gh en io f =>
  hb (wOnly K c tsu Wo D) G (fun G1 H1 σ1 g1 gh1 en1 j1 => ⟨true, he, fun _ a na => hs a G1 H1 σ1 D gh1 en1 j1 (f.mono g1), fun z => nomatch z⟩) G H σ D gh en ⟨io, Same.refl G⟩ fun _ _ _ _ _ z => z.elim
instance hasT_and {T : Tbs} {G0 : Hp} [h : HasT T J] : HasT T (J.and (Asn.frm G0)) := ⟨fun G H z => h.get G H z.1⟩
/-! ### texts -/
theorem e_addS {x y : Str} (ha : E K ta ρ I (.d (.str x)) J) (hb : E K tb ρ J (.d (.str y)) L) (hl : x.length + y.length ≤ sizeLine) : E K (tOp (fun x y H Q => ∃ i j, x = .str i ∧ y = .str j ∧ i.length + j.length ≤ sizeLine ∧ Q (.str (i ++ j)) H) ta tb) ρ I (.d (.str (x ++ y))) L :=
  e_op ha hb fun G H v w gh lo dx dy Q q => by
    obtain rfl := dv_str dx
    obtain rfl := dv_str dy
    exact ⟨x, y, rfl, rfl, hl, q _ G H (Same.refl _) gh lo (.str _)⟩
theorem e_isB {c : Bool} {n : String} (h : kitB "bool" n = some b) (ha : E K ta ρ I (.b c) J) : E K (tCB (rIsi K) (tCons ta (tCons (tC (.ty n)) tNil))) ρ I (.b b) J := fun G H σ gh en io Q q =>
  ha G H σ gh en io _ fun x G1 H1 g1 gh1 j1 dx => by
    obtain rfl := dv_bl dx
    exact ⟨.bl c, .ty n, .type "bool", .type n, b, rfl, .ty n, .base (.bl c), kit_ty h, q _ G1 H1 g1 gh1 j1 (.bl b)⟩
/-- k not in (0, 1) -/
theorem e_axis {n : Int} (ha : E K ta ρ I (.i n) J) (hb : E K tb ρ J (.t [.int 0, .int 1]) L) : E K (tOp (rIn K true) ta tb) ρ I (.b (!(decide (n = 0) || decide (n = 1)))) L :=
  e_op ha hb fun G H v w gh lo dx dy Q q => by
    obtain rfl := dv_int dx
    cases dy with
    | tup s r =>
      cases r with
      | cons r0 r =>
        cases r with
        | cons r1 r =>
          cases r
          cases r0
          cases r1
          refine ⟨_, _, rfl, .inr (same_t gh s), rfl, rfl, ?_⟩
          have e : (if true = true then !inV (.int n) [V.int 0, V.int 1] else inV (.int n) [V.int 0, V.int 1]) = !(decide (n = 0) || decide (n = 1)) := by
            rw [if_pos rfl]
            show (!((0 : Int) == n || ((1 : Int) == n || false))) = _
            congr 1
            have h0 : ((0 : Int) == n) = decide (n = 0) := by
              by_cases c : n = 0
              · subst c; rfl
              · rw [decide_eq_false c]; exact beq_false_of_ne fun z => c z.symm
            have h1 : ((1 : Int) == n) = decide (n = 1) := by
              by_cases c : n = 1
              · subst c; rfl
              · rw [decide_eq_false c]; exact beq_false_of_ne fun z => c z.symm
            rw [h0, h1, Bool.or_false]
          rw [e]
          exact q _ G H (Same.refl _) gh lo (.bl _)
/-- a comprehension over a tuple, any target -/
theorem e_lcGT {xds : List PyData} {tl : TE} {g : TG} {vs : List Nat} {es : List PyData} (hl : E K tl ρ I (.t xds) I) (hn : es.length = xds.length) (hz : xds.length ≤ 100000)
    (he : ∀ (i : Nat) x y, xds[i]? = some x → es[i]? = some y → ∃ ρ', GW K g vs x (wipeR ρ vs) ρ' ∧ ∀ I', E K te ρ' I' (.d y) I') : E K (tLc (iTup K tl) g tYes te vs) ρ I (.d (.list es)) I := fun G H σ gh en io Q q =>
  hl G H σ gh en io _ fun v G1 H1 g1 gh1 j1 dv => by
    cases dv with
    | tup s r =>
      rename_i a xs
      refine ⟨a, rfl, ⟨_, same_t gh1 s⟩, fun D hD => ?_⟩
      have gD : G1 D = none := gh1.free hD
      have lx := dpa_len r
      have nD : ∀ a, I.foot a → ¬ a = D := fun a fa z => by
        obtain ⟨o, ho⟩ := I.own G1 H1 a j1 fa
        rw [z, hD] at ho
        cases ho
      refine lc_tup (xs := xs) (fun i H' => ∃ G', Same G1 G' ∧ Same G' H' ∧ I.ok G' H' ∧ (lA K D (es.take i)).ok G' H' ∧ Stp (· = D) G1 (upd H1 D (.lst [])) G' H') ?_ (fun i H' _ ⟨G', a1, a2, _⟩ => same_t (a1.trans a2) s) (fun i x H' hx ⟨G', a1, a2, a3, a4, a5⟩ => ?_) (fun H' ⟨G', a1, a2, a3, a4, a5⟩ => ?_)
      · have st := Stp.newM (o := HO.lst []) gh1 hD
        exact ⟨G1, Same.refl _, st.gh, Asn.pure_st st j1, ⟨gD, [], upd_same, .nil⟩, Stp.refl st.gh⟩
      · have hi : i < xs.length := (List.getElem?_eq_some_iff.mp hx).1
        have hi2 : i < xds.length := by omega
        have hi3 : i < es.length := by omega
        obtain ⟨w, h1, h2⟩ := dpa_get r (List.getElem?_eq_getElem hi2)
        rw [hx] at h1
        obtain rfl := Option.some.inj h1
        obtain ⟨ρ', hg, hel⟩ := he i _ _ (List.getElem?_eq_getElem hi2) (List.getElem?_eq_getElem hi3)
        refine hg G' H' _ x _ a2 (env_wipe (env_mono (g1.trans a1) en) vs) (dp_mono a1 _ _ h2) fun σ' en' hw => ⟨hw.trans (wipe_wipe σ vs), ?_⟩
        refine hel (((lA K D (es.take i)).and I).and (Asn.since (· = D) G1 (upd H1 D (.lst [])))) G' H' _ a2 en' ⟨⟨a4, a3⟩, a5⟩ _ fun y G2 H2 g2 gh2 j2 dy => ?_
        obtain ⟨⟨⟨gq, vs', hq, r2⟩, i2⟩, st2⟩ := j2
        have st := Stp.store (o := HO.lst (vs' ++ [y])) gh2 gq hq
        refine ⟨vs', hq, ?_, G2, a1.trans g2, st.gh, ?_, ⟨gq, _, upd_same, ?_⟩, st2.trans st⟩
        · rw [dpa_len r2, List.length_take]
          exact Nat.lt_of_le_of_lt (Nat.min_le_left _ _) (Nat.lt_of_le_of_lt (show i ≤ 100000 by omega) (by decide))
        · exact I.st _ _ _ _ _ nD st i2
        · rw [List.take_add_one, List.getElem?_eq_getElem hi3]
          exact dpa_app r2 (.cons dy .nil)
      · obtain ⟨gq, vs', hq, r2⟩ := a4
        have st : Stp (· = D) G' H' (upd G' D (.lst vs')) H' := Stp.frz a2 gq hq
        refine q _ (upd G' D (.lst vs')) H' ((g1.trans a1).trans st.gg) st.gh (I.st _ _ _ _ _ nD st a3) (.lst (.inl (.inl upd_same)) (dp_monos st.gg _ vs' ?_))
        rw [show es = es.take xs.length by rw [List.take_of_length_le (by omega)]]
        exact r2
theorem cxHK {CX : CXT} {P : Program} {w : World} {K : PySem.W.Frag} {mg : Str → Option Value} {base : Heap} {N : List Str} {q : Str} {sc : Scope} {f : Addr} {cd : Value} {A : Around} {o : List Env} {s : Shared} {H : Hp} {E : XK} {p : Addr × Obj} :
    (L2H.cxH CX P w K mg base N q sc f cd A o s H E p).K = K := rfl
end
end PL

/-! walks, loops with a state that is told by a wish, draws of which bounds are told, dicts, tuples -/
namespace PL
open PySem PySem.Spec PyProof.Rows L2 FR GX PX
variable [Nm]

section
variable {K : PySem.W.Frag} {ρ ρ1 : Rho} {I J L N : Asn} {ta tb tc te : TE} {d e : Dat} {t u : TT} {b c : Bool} {ts us : TS} {k : Out} {tr : TA} {ds : List PyData} {x y : PyData}
/-! ### walks -/
/-- J walks over n items, the i-th is xs i; each turn may lay new objects -/
structure Walk (K : PySem.W.Frag) (J : It) (n : Nat) (xs : Nat → PyData) (G1 : Hp) : Prop where
  go : ∀ i G H, i < n → Same G1 G → Same G H → J.go i H
  stop : ∀ G H, Same G1 G → Same G H → J.stop n H
  yld : ∀ i G H v H', i < n → Same G1 G → Same G H → J.yld i H v H' → ∃ G', Stp NoA G H G' H' ∧ Dp K G' v (xs i)
theorem walk_t {G : Hp} {a : Addr} {vs : List V} {xs : Nat → PyData} (s : SqT K G a vs) (r : DpAll K G vs ds) (hx : ∀ i, i < ds.length → ds[i]? = some (xs i)) : Walk K (Itt K a) ds.length xs G := by
  have lx := dpa_len r
  refine ⟨fun i G2 H hi a1 a2 => ⟨vs, vs[i]'(by omega), same_t (a1.trans a2) s, List.getElem?_eq_getElem (by omega)⟩, fun G2 H a1 a2 => ⟨vs, same_t (a1.trans a2) s, by omega⟩, fun i G2 H v H' hi a1 a2 y => ?_⟩
  obtain ⟨rfl, y2⟩ := y
  obtain ⟨w, h1, h2⟩ := dpa_get r (hx i hi)
  obtain rfl : v = w := Option.some.inj ((y2 vs (same_t (a1.trans a2) s)).symm.trans h1)
  exact ⟨G2, Stp.refl a2, dp_mono a1 _ _ h2⟩
theorem walk_l {G : Hp} {a : Addr} {vs : List V} {xs : Nat → PyData} (s : SqL K G a vs) (r : DpAll K G vs ds) (hx : ∀ i, i < ds.length → ds[i]? = some (xs i)) : Walk K (Itl K a) ds.length xs G := by
  have lx := dpa_len r
  refine ⟨fun i G2 H hi a1 a2 => ⟨vs, vs[i]'(by omega), (a1.trans a2).seq s, List.getElem?_eq_getElem (by omega)⟩, fun G2 H a1 a2 => ⟨vs, (a1.trans a2).seq s, by omega⟩, fun i G2 H v H' hi a1 a2 y => ?_⟩
  obtain ⟨rfl, y2⟩ := y
  obtain ⟨w, h1, h2⟩ := dpa_get r (hx i hi)
  obtain rfl : v = w := Option.some.inj ((y2 vs ((a1.trans a2).seq s)).symm.trans h1)
  exact ⟨G2, Stp.refl a2, dp_mono a1 _ _ h2⟩
theorem walk_r {G : Hp} {lo : Int} {n : Nat} : Walk K (Itr lo n) n (fun i => .int (lo + (i : Nat))) G :=
  ⟨fun i _ _ hi _ _ => hi, fun _ _ _ _ => Nat.le_refl _, fun i G2 H v H' hi a1 a2 y => by
    obtain ⟨rfl, rfl⟩ := y
    exact ⟨G2, Stp.refl a2, .int _⟩⟩
theorem walk_e {G : Hp} {a : Addr} {vs : List V} {xs : Nat → PyData} (s : SqL K G a vs) (r : DpAll K G vs ds) (hx : ∀ i, i < ds.length → ds[i]? = some (xs i)) : Walk K (Ite K a) ds.length (fun i => .tuple [.int (i : Nat), xs i]) G := by
  have lx := dpa_len r
  refine ⟨fun i G2 H hi a1 a2 => ⟨vs, vs[i]'(by omega), (a1.trans a2).seq s, List.getElem?_eq_getElem (by omega)⟩, fun G2 H a1 a2 => ⟨vs, (a1.trans a2).seq s, by omega⟩, fun i G2 H v H' hi a1 a2 y => ?_⟩
  obtain ⟨q, x, rfl, nq, rfl, y2⟩ := y
  obtain ⟨w, h1, h2⟩ := dpa_get r (hx i hi)
  obtain rfl : x = w := Option.some.inj ((y2 vs ((a1.trans a2).seq s)).symm.trans h1)
  have st := Stp.new (o := .tup [.int (i : Nat), x]) a2 nq
  exact ⟨_, st, .tup (.inl (.inl upd_same)) (.cons (.int _) (.cons (dp_mono (a1.trans st.gg) _ _ h2) .nil))⟩
/-- how an iterable is walked -/
def IW (K : PySem.W.Frag) (wi : TI) (ρ : Rho) (I : Asn) (n : Nat) (xs : Nat → PyData) (J : Asn) : Prop :=
  ∀ G H σ, Same G H → EnvD K G σ ρ → I.ok G H → ∀ R : It → Hp → Prop, (∀ Ji G2 H2, Same G G2 → Same G2 H2 → J.ok G2 H2 → Walk K Ji n xs G2 → R Ji H2) → wi σ H R
abbrev at0 (ds : List PyData) (i : Nat) : PyData := ds.getD i .none
theorem at0_get {i : Nat} (hi : i < ds.length) : ds[i]? = some (at0 ds i) := by
  unfold at0
  rw [List.getD_eq_getElem?_getD, List.getElem?_eq_getElem hi]
  rfl
theorem iw_t {tl : TE} (h : E K tl ρ I (.t ds) J) : IW K (iTup K tl) ρ I ds.length (at0 ds) J := fun G H σ gh en io R r => h G H σ gh en io _ fun v G1 H1 g1 gh1 j1 dv => by
  cases dv with
  | tup s r1 => exact ⟨_, rfl, ⟨_, same_t gh1 s⟩, r _ G1 H1 g1 gh1 j1 (walk_t s r1 fun i hi => at0_get hi)⟩
theorem iw_l {tl : TE} (h : E K tl ρ I (.d (.list ds)) J) : IW K (iList K tl) ρ I ds.length (at0 ds) J := fun G H σ gh en io R r => h G H σ gh en io _ fun v G1 H1 g1 gh1 j1 dv => by
  cases dv with
  | lst s r1 => exact ⟨_, rfl, ⟨_, gh1.seq s⟩, r _ G1 H1 g1 gh1 j1 (walk_l s r1 fun i hi => at0_get hi)⟩
theorem iw_ll {tl : TE} (h : E K tl ρ I (.l ds) J) : IW K (iList K tl) ρ I ds.length (at0 ds) J := iw_l (e_l2d h)
theorem iw_e {tl : TA} (h : A K tl ρ I [.d (.list ds)] J) : IW K (iEnum K tl) ρ I ds.length (fun i => .tuple [.int (i : Nat), at0 ds i]) J := fun G H σ gh en io R r => h G H σ gh en io _ fun vs G1 H1 g1 gh1 j1 dv => by
  obtain ⟨v, rfl, dw⟩ := dva1 dv
  cases dw with
  | lst s r1 => exact ⟨_, _, rfl, gh1.seq s, r _ G1 H1 g1 gh1 j1 (walk_e s r1 fun i hi => at0_get hi)⟩
theorem iw_r {tl : TA} {n : Nat} (h : A K tl ρ I [.i (n : Nat)] J) (hn : n ≤ 1000000) : IW K (iRng1 tl) ρ I n (fun i => .int (i : Nat)) J := fun G H σ gh en io R r => h G H σ gh en io _ fun vs G1 H1 g1 gh1 j1 dv => by
  obtain ⟨v, rfl, dw⟩ := dva1 dv
  obtain rfl := dv_int dw
  refine ⟨(n : Int), rfl, by omega, by omega, r _ G1 H1 g1 gh1 j1 ?_⟩
  rw [Int.toNat_natCast]
  have w := walk_r (K := K) (G := G1) (lo := 0) (n := n)
  exact ⟨w.go, w.stop, fun i G2 H v H' hi a1 a2 y => by
    obtain ⟨G', st, dp⟩ := w.yld i G2 H v H' hi a1 a2 y
    rw [Int.zero_add] at dp
    exact ⟨G', st, dp⟩⟩
/-! ### outcomes -/
/-- what binds a return alone -/
def Out.ret (k : Out) : Prop := (∃ d J, k = .rt d J) ∨ ∃ P, k = .fin P
theorem ret_rt {d : Dat} {J : Asn} : Out.ret (.rt d J) := .inl ⟨_, _, rfl⟩
theorem ret_fin {P : V → Hp → Hp → Prop} : Out.ret (.fin P) := .inr ⟨_, rfl⟩
theorem Out.ret.other {k : Out} (h : k.ret) {D D' : Ends} {G : Hp} (e : D'.rt = D.rt) (f : Fin K D G k) : Fin K D' G k := by
  rcases h with ⟨d, J, rfl⟩ | ⟨P, rfl⟩
  · intro v G2 H2 a b c dv
    rw [e]
    exact f v G2 H2 a b c dv
  · intro v G2 H2 a b c
    rw [e]
    exact f v G2 H2 a b c
/-- nothing comes behind -/
theorem s_stopR (hk : k.ret) (h : S K ts ρ I k) : S K (tSeq ts us) ρ I k := fun G H σ D gh en io f => h G H σ _ gh en io (hk.other (D := D) rfl f)
theorem s_any (h : S K ts ρ I .nil) : S K ts ρ I k := fun G H σ D gh en io f => h G H σ D gh en io fun _ _ _ _ _ z => z.elim
theorem s_ofRt {P : V → Hp → Hp → Prop} (h : S K ts ρ I (.rt d J)) (hp : ∀ v G H, Same G H → J.ok G H → Dv K G v d → P v G H) : S K ts ρ I (.fin P) := fun G H σ D gh en io f => h G H σ D gh en io fun v G2 H2 a b c dv => f v G2 H2 a b (hp v G2 H2 b c dv)
/-! ### loops: a state that keeps a wish -/
theorem s_loop {α : Type} {wi : TI} {g : TG} {n : Nat} {xs : Nat → PyData} (W : Nat → α → Prop) (P : α → Rho) (V : α → Asn) (a0 : α) (w0 : W 0 a0) (hl : IW K wi ρ I n xs (V a0)) (h0 : ρ = P a0)
    (step : ∀ i a, i < n → W i a → ∃ ρ', GJ K g (xs i) (P a) ρ' ∧ ((∃ a', W (i + 1) a' ∧ S K ts ρ' (V a) (.nx (P a') (V a'))) ∨ (k.ret ∧ S K ts ρ' (V a) k)))
    (done : ∀ a, W n a → S K us (P a) (V a) k) : S K (tSeq (tFor wi g ts) us) ρ I k := fun G H σ D gh en io f => by
  show tFor wi g ts { D with nx := fun σ' H' => us D σ' H' } σ H
  refine hl G H σ gh en io _ fun Ji G1 H1 g1 gh1 j1 wk => ?_
  refine ⟨fun i m σ' H' => m = n - i ∧ i ≤ n ∧ ∃ a G', W i a ∧ Same G1 G' ∧ Same G' H' ∧ EnvD K G' σ' (P a) ∧ (V a).ok G' H', ⟨n, rfl, Nat.zero_le _, a0, G1, w0, Same.refl _, gh1, h0 ▸ env_mono g1 en, j1⟩, fun i m σ' H' hw => ?_⟩
  obtain ⟨rfl, hi, a, G', wa, a1, a2, a3, a4⟩ := hw
  by_cases c : i < n
  · obtain ⟨ρ', hg, hs⟩ := step i a c wa
    rcases hs with ⟨a', wa', hs⟩ | ⟨hk, hs⟩
    · refine .inr ⟨wk.go i G' H' c a1 a2, fun σ2 H2 => ∃ G2, Same G1 G2 ∧ Same G2 H2 ∧ EnvD K G2 σ2 (P a') ∧ (V a').ok G2 H2, fun σ2 H2 ⟨G2, b1, b2, b3, b4⟩ => ⟨n - (i + 1), by omega, rfl, c, a', G2, wa', b1, b2, b3, b4⟩, fun v H2 y => ?_⟩
      obtain ⟨G2, st, dp⟩ := wk.yld i G' H' v H2 c a1 a2 y
      exact hg G2 H2 σ' v _ st.gh (env_mono st.gg a3) dp fun σ2 en2 => hs G2 H2 σ2 _ st.gh en2 (Asn.pure_st st a4) fun G3 H3 σ3 g3 gh3 en3 j3 => ⟨G3, (a1.trans st.gg).trans g3, gh3, en3, j3⟩
    · refine .inr ⟨wk.go i G' H' c a1 a2, fun _ _ => False, fun _ _ z => z.elim, fun v H2 y => ?_⟩
      obtain ⟨G2, st, dp⟩ := wk.yld i G' H' v H2 c a1 a2 y
      exact hg G2 H2 σ' v _ st.gh (env_mono st.gg a3) dp fun σ2 en2 => hs G2 H2 σ2 _ st.gh en2 (Asn.pure_st st a4) (hk.other (D := D) rfl (((f.mono g1).mono a1).mono st.gg))
  · have e : i = n := by omega
    subst e
    exact .inl ⟨wk.stop G' H' a1 a2, done a wa G' H' σ' D a2 a3 a4 ((f.mono g1).mono a1)⟩
theorem s_loop1 {α : Type} {wi : TI} {g : TG} {n : Nat} {xs : Nat → PyData} (W : Nat → α → Prop) (P : α → Rho) (V : α → Asn) (a0 : α) (w0 : W 0 a0) (hl : IW K wi ρ I n xs (V a0)) (h0 : ρ = P a0)
    (step : ∀ i a, i < n → W i a → ∃ ρ', GJ K g (xs i) (P a) ρ' ∧ ((∃ a', W (i + 1) a' ∧ S K ts ρ' (V a) (.nx (P a') (V a'))) ∨ (k.ret ∧ S K ts ρ' (V a) k)))
    (done : ∀ a, W n a → S K tNext (P a) (V a) k) : S K (tFor wi g ts) ρ I k := fun G H σ D gh en io f => s_loop (us := tNext) W P V a0 w0 hl h0 step done G H σ D gh en io f
/-! ### comprehensions over any walk -/
theorem e_lcW {wi : TI} {g : TG} {vs : List Nat} {n : Nat} {xs : Nat → PyData} {es : List PyData} (hl : IW K wi ρ I n xs I) (hn : es.length = n) (hz : n ≤ 100000)
    (he : ∀ i y, i < n → es[i]? = some y → ∃ ρ', GW K g vs (xs i) (wipeR ρ vs) ρ' ∧ ∀ I', E K te ρ' I' (.d y) I') : E K (tLc wi g tYes te vs) ρ I (.d (.list es)) I := fun G H σ gh en io Q q =>
  hl G H σ gh en io _ fun Ji G1 H1 g1 gh1 j1 wk D hD => by
    have gD : G1 D = none := gh1.free hD
    have nD : ∀ a, I.foot a → ¬ a = D := fun a fa z => by
      obtain ⟨o, ho⟩ := I.own G1 H1 a j1 fa
      rw [z, hD] at ho
      cases ho
    have st0 := Stp.newM (o := HO.lst []) gh1 hD
    refine ⟨fun i m H' => m = n - i ∧ i ≤ n ∧ ∃ G', Same G1 G' ∧ Same G' H' ∧ I.ok G' H' ∧ (lA K D (es.take i)).ok G' H' ∧ Stp (· = D) G1 (upd H1 D (.lst [])) G' H', ⟨n, rfl, Nat.zero_le _, G1, Same.refl _, st0.gh, Asn.pure_st st0 j1, ⟨gD, [], upd_same, .nil⟩, Stp.refl st0.gh⟩, fun i m H' hw => ?_⟩
    obtain ⟨rfl, hi, G', a1, a2, a3, a4, a5⟩ := hw
    by_cases c : i < n
    · have hi3 : i < es.length := by omega
      obtain ⟨ρ', hg, hel⟩ := he i _ c (List.getElem?_eq_getElem hi3)
      refine .inr ⟨wk.go i G' H' c a1 a2, fun H2 => ∃ G2, Same G1 G2 ∧ Same G2 H2 ∧ I.ok G2 H2 ∧ (lA K D (es.take (i + 1))).ok G2 H2 ∧ Stp (· = D) G1 (upd H1 D (.lst [])) G2 H2, fun H2 z => ⟨n - (i + 1), by omega, rfl, c, z⟩, fun v H2 y => ?_⟩
      obtain ⟨G2, st, dp⟩ := wk.yld i G' H' v H2 c a1 a2 y
      refine hg G2 H2 _ v _ st.gh (env_wipe (env_mono ((g1.trans a1).trans st.gg) en) vs) dp fun σ' en' hw => ⟨hw.trans (wipe_wipe σ vs), ?_⟩
      refine hel (((lA K D (es.take i)).and I).and (Asn.since (· = D) G1 (upd H1 D (.lst [])))) G2 H2 _ st.gh en' ⟨⟨Asn.pure_st st a4, Asn.pure_st st a3⟩, a5.trans (st.wide fun _ z => z.elim)⟩ _ fun y G3 H3 g3 gh3 j3 dy => ?_
      obtain ⟨⟨⟨gq, ws, hq, r2⟩, i3⟩, st3⟩ := j3
      have st4 := Stp.store (o := HO.lst (ws ++ [y])) gh3 gq hq
      refine ⟨ws, hq, ?_, G3, (a1.trans st.gg).trans g3, st4.gh, I.st _ _ _ _ _ nD st4 i3, ⟨gq, _, upd_same, ?_⟩, st3.trans st4⟩
      · rw [dpa_len r2, List.length_take]
        exact Nat.lt_of_le_of_lt (Nat.min_le_left _ _) (Nat.lt_of_le_of_lt (show i ≤ 100000 by omega) (by decide))
      · rw [List.take_add_one, List.getElem?_eq_getElem hi3]
        exact dpa_app r2 (.cons dy .nil)
    · have ei : i = n := by omega
      subst ei
      obtain ⟨gq, ws, hq, r2⟩ := a4
      have st : Stp (· = D) G' H' (upd G' D (.lst ws)) H' := Stp.frz a2 gq hq
      refine .inl ⟨wk.stop G' H' a1 a2, q _ (upd G' D (.lst ws)) H' ((g1.trans a1).trans st.gg) st.gh (I.st _ _ _ _ _ nD st a3) (.lst (.inl (.inl upd_same)) (dp_monos st.gg _ ws ?_))⟩
      rw [show es = es.take i by rw [List.take_of_length_le (by omega)]]
      exact r2
/-! ### reading a list that may change, as if it never did -/
mutual
def flatD : PyData → Bool
  | .none => true
  | .bool _ => true
  | .int _ => true
  | .str _ => true
  | .list _ => false
  | .tuple ds => flatDs ds
  | .dict _ => false
def flatDs : List PyData → Bool
  | [] => true
  | d :: ds => flatD d && flatDs ds
end
def gdel (G : Hp) (q : Addr) : Hp := fun b => if b = q then none else G b
theorem gdel_ne {G : Hp} {q b : Addr} (h : b ≠ q) : gdel G q b = G b := if_neg h
theorem gdel_eq {G : Hp} {q : Addr} : gdel G q q = none := if_pos rfl
theorem sqt_del {G : Hp} {q a : Addr} {vs xs : List V} (hq : G q = some (.lst vs)) (h : SqT K G a xs) : SqT K (gdel G q) a xs := by
  rcases h with (h | ⟨o, h⟩) | h
  · refine .inl (.inl ?_)
    have : a ≠ q := fun z => by rw [z, hq] at h; cases h
    show gdel G q a = _
    rw [gdel_ne this]; exact h
  · refine .inl (.inr ⟨o, ?_⟩)
    have : a ≠ q := fun z => by rw [z, hq] at h; cases h
    rw [gdel_ne this]; exact h
  · exact .inr h
mutual
theorem dp_del {G : Hp} {q : Addr} {vs : List V} (hq : G q = some (.lst vs)) : ∀ (d : PyData) (v : V), flatD d = true → Dp K G v d → Dp K (gdel G q) v d
  | .none, _, _, h => by cases h; exact .non
  | .bool b, _, _, h => by cases h; exact .bl b
  | .int i, _, _, h => by cases h; exact .int i
  | .str x, _, _, h => by cases h; exact .str x
  | .list ds, _, f, h => by cases f
  | .tuple ds, _, f, h => by
    cases h with
    | tup a b => exact .tup (sqt_del hq a) (dp_dels hq ds _ f b)
  | .dict _, _, _, h => by cases h
theorem dp_dels {G : Hp} {q : Addr} {vs : List V} (hq : G q = some (.lst vs)) : ∀ (ds : List PyData) (ws : List V), flatDs ds = true → DpAll K G ws ds → DpAll K (gdel G q) ws ds
  | [], _, _, h => by cases h; exact .nil
  | d :: ds, _, f, h => by
    have f' : (flatD d && flatDs ds) = true := f
    rw [Bool.and_eq_true] at f'
    cases h with
    | cons a b => exact .cons (dp_del hq d _ f'.1 a) (dp_dels hq ds _ f'.2 b)
end
theorem env_putK {G : Hp} {q : Addr} {z : Dat} (hx : Dv K G (.ref q) z) : ∀ {σ : List (Option V)} {ρ : Rho} {i : Nat}, EnvD K G σ ρ → ρ[i]? = some (some (.r q)) → EnvD K G σ (ρ.set i (some z))
  | [], [], _, _, e => by simp at e
  | s :: _, o :: _, 0, h, e => by
    have eo : o = some (.r q) := by simpa using e
    obtain ⟨h1, h2⟩ := h
    rw [eo] at h1
    obtain ⟨v, h3, h4⟩ := h1
    exact ⟨⟨v, h3, by rw [show v = V.ref q from h4]; exact hx⟩, h2⟩
  | _ :: σ, _ :: ρ, i + 1, h, e => ⟨h.1, env_putK hx (i := i) h.2 (by simpa using e)⟩
  | [], _ :: _, _, h, _ => h.elim
  | _ :: _, [], _, h, _ => h.elim
theorem e_borrow {i : Nat} {q : Addr} (hi : ρ[i]? = some (some (.r q))) (hx : flatD x = true) (h : ∀ I', E K te (ρ.set i (some (.d (.list ds)))) I' (.d x) I') : E K te ρ (lJ K q ds J) (.d x) (lJ K q ds J) := fun G H σ gh en io Q k => by
  obtain ⟨⟨gq, vs, hq, r⟩, jo⟩ := io
  have s0 := Stp.frz gh gq hq
  have en' : EnvD K (upd G q (.lst vs)) σ (ρ.set i (some (.d (.list ds)))) := env_putK (z := .d (.list ds)) (.lst (.inl (.inl upd_same)) (dp_monos s0.gg _ _ r)) (env_mono s0.gg en) hi
  refine h (Asn.since NoA (upd G q (.lst vs)) H) _ H σ s0.gh en' (Stp.refl s0.gh) _ fun v G2 H2 g2 gh2 j2 dv => ?_
  have j2 : Stp NoA (upd G q (.lst vs)) H G2 H2 := j2
  have gq2 : G2 q = some (.lst vs) := g2 q _ upd_same
  have st : Stp NoA G H (gdel G2 q) H2 := by
    refine ⟨fun b o e => ?_, fun b o e => ?_, j2.hh, fun a o _ e n => ?_, j2.ex, fun P t => ?_⟩
    rotate_left
    rotate_left
    rotate_left
    · have t2 := j2.lt P (s0.lt P t)
      refine t2.keep (fun g => ?_) fun b o e _ _ => e
      by_cases z : P = q
      · rw [z, gdel_eq]
      · rw [gdel_ne z]; exact g
    · have nb : b ≠ q := fun z => by rw [z, gq] at e; cases e
      rw [gdel_ne nb]
      exact (s0.gg b o e).trans fun u z => g2 b u z
    · have nb : b ≠ q := fun z => by rw [z, gdel_eq] at e; cases e
      rw [gdel_ne nb] at e
      exact gh2 b o e
    · by_cases z : a = q
      · rw [z, gdel_eq]
      · rw [gdel_ne z]
        exact j2.fr a o (fun z => z) e (by rw [upd_ne z]; exact n)
  exact k v _ H2 st.gg st.gh ⟨⟨gdel_eq, vs, j2.hh q _ (fun z => z) hq, dp_monos st.gg _ _ r⟩, Asn.pure_st st jo⟩ (dp_del gq2 x v hx dv)
/-- q[j], an item of a list that may change -/
theorem e_ixM {j : Nat} {q : Addr} (ha : E K ta ρ I (.r q) J) (hb : E K tb ρ J (.i (j : Nat)) N) (hN : ∀ G H, N.ok G H → (lA K q ds).ok G H) (h : ds[j]? = some x) : E K (tOp (rIxL K) ta tb) ρ I (.d x) N :=
  e_op ha hb fun G H v w gh lo dx dy Q k => by
    obtain rfl : v = .ref q := dx
    obtain rfl := dv_int dy
    obtain ⟨gq, vs, hq, r⟩ := hN G H lo
    obtain ⟨u, h1, h2⟩ := dpa_get r h
    exact ⟨q, _, _, u, rfl, rfl, .inl (.inl hq), atI_nat h1, k u G H (Same.refl _) gh lo h2⟩
/-! ### draws of which only bounds are told -/
/-- of the arguments ds, the list as C and what X says, a def that draws hands back some d and leaves some C' with Po d C' -/
def spN (K : PySem.W.Frag) (R : List Dat → DS → Asn → (Dat → DS → Prop) → Prop) : Sp := fun vs H Q _ => ∃ G ds p C X Po, Same G H ∧ DvAll K G vs (.r p :: ds) ∧ (dA K p C).ok G H ∧ X.ok G H ∧ ¬ X.foot p ∧ R ds C X Po ∧
  ∀ d C', Po d C' → ∀ v G2 H2, Stp (· = p) G H G2 H2 → (dA K p C').ok G2 H2 → Dv K G2 v d → Q v H2
abbrev outN (K : PySem.W.Frag) (p : Addr) (J : Asn) (Po : Dat → DS → Prop) : Out := .fin fun v G H => ∃ d C', Po d C' ∧ (dJ K p C' J).ok G H ∧ Dv K G v d
theorem len_N {R : List Dat → DS → Asn → (Dat → DS → Prop) → Prop} {n : Nat} (hl : ∀ ds C X Po, R ds C X Po → ds.length + 1 = n) {vs : List V} {H : Hp} {Q : VK} {X : XK} (h : spN K R vs H Q X) : vs.length = n := by
  obtain ⟨G, ds, p, C, Z, Po, gh, dvs, k, _, _, r, q⟩ := h
  rw [dva_len dvs, List.length_cons, hl ds C Z Po r]
theorem body_N {R : List Dat → DS → Asn → (Dat → DS → Prop) → Prop} {nn : List Str} {vs : List V} {H : Hp} {Q : VK} {X : XK} (hb : ∀ ds C Z Po, R ds C Z Po → ∀ p J, ¬ J.foot p → ¬ Z.foot p → S K ts (some (.r p) :: (ds.map some ++ List.replicate (nn.length - (ds.length + 1)) none)) (dJ K p C (Z.and J)) (outN K p J Po)) (h : spN K R vs H Q X) :
    ts { nx := fun _ H' => Q .non H', rt := Q } (L2.start nn vs) H := by
  obtain ⟨G, ds, p, C, Z, Po, gh, dvs, k, z, zp, r, q⟩ := h
  refine hb ds C Z Po r p (Asn.since (· = p) G H) (fun z => z.1 rfl) zp G H _ _ gh ?_ ⟨k, z, Stp.refl gh⟩ fun v G2 H2 g2 gh2 ⟨d, C', po, j2, dv⟩ => q d C' po v G2 H2 j2.2 j2.1 dv
  unfold L2.start
  rw [dva_len dvs, List.length_cons]
  exact env_start (ds := .r p :: ds) _ dvs
theorem s_retN {p : Addr} {C' : DS} {Po : Dat → DS → Prop} (h : S K ts ρ I (.rt d (dJ K p C' J))) (po : Po d C') : S K ts ρ I (outN K p J Po) := s_ofRt h fun v G H gh j dv => ⟨d, C', po, j, dv⟩
theorem s_preN {p : Addr} {C : DS} {Z : Asn} (h : S K ts ρ (dJ K p C J) k) : S K ts ρ (dJ K p C (Z.and J)) k := s_pre (I' := dJ K p C J) (fun _ _ z => ⟨z.1, z.2.2⟩) h
/-- an expression of which only a wish is told -/
def EN (K : PySem.W.Frag) (te : TE) (ρ : Rho) (I : Asn) (P : Dat → Asn → Prop) : Prop := ∀ G H σ, Same G H → EnvD K G σ ρ → I.ok G H → ∀ Q : VK, (∀ d J, P d J → ∀ v G2 H2, Same G G2 → Same G2 H2 → J.ok G2 H2 → Dv K G2 v d → Q v H2) → te σ H Q
def AN (K : PySem.W.Frag) (ta : TA) (ρ : Rho) (I : Asn) (P : List Dat → Asn → Prop) : Prop := ∀ G H σ, Same G H → EnvD K G σ ρ → I.ok G H → ∀ Q : List V → Hp → Prop, (∀ ds J, P ds J → ∀ vs G2 H2, Same G G2 → Same G2 H2 → J.ok G2 H2 → DvAll K G2 vs ds → Q vs H2) → ta σ H Q
theorem en_of {P : Dat → Asn → Prop} (h : E K te ρ I d J) (hp : P d J) : EN K te ρ I P := fun G H σ gh en io Q q => h G H σ gh en io _ fun v G2 H2 g2 gh2 j2 dv => q d J hp v G2 H2 g2 gh2 j2 dv
theorem an_of {P : List Dat → Asn → Prop} {ds : List Dat} (h : A K tr ρ I ds J) (hp : P ds J) : AN K tr ρ I P := fun G H σ gh en io Q q => h G H σ gh en io _ fun v G2 H2 g2 gh2 j2 dv => q ds J hp v G2 H2 g2 gh2 j2 dv
theorem an_cons {P : Dat → Asn → Prop} {P2 : List Dat → Asn → Prop} (h : EN K te ρ I P) (h2 : ∀ d J, P d J → AN K tr ρ J fun ds L => P2 (d :: ds) L) : AN K (tCons te tr) ρ I P2 := fun G H σ gh en io Q q => h G H σ gh en io _ fun d J p v G1 H1 g1 gh1 j1 dv =>
  h2 d J p G1 H1 σ gh1 (env_mono g1 en) j1 _ fun ds L p2 vs G2 H2 g2 gh2 j2 dvs => q (d :: ds) L p2 (v :: vs) G2 H2 (g1.trans g2) gh2 j2 ⟨dv_mono g2 dv, dvs⟩
theorem en_tup {P : List Dat → Asn → Prop} {P2 : Dat → Asn → Prop} (h : AN K tr ρ I P) (h2 : ∀ ds J, P ds J → ∃ xs, Ds ds xs ∧ xs.length ≤ 100000 ∧ P2 (.t xs) J) : EN K (tTup tr) ρ I P2 := fun G H σ gh en io Q q => h G H σ gh en io _ fun ds J p vs G1 H1 g1 gh1 j1 dvs => by
  obtain ⟨xs, hd, hl, p2⟩ := h2 ds J p
  have r : DpAll K G1 vs xs := dva_dp (by rw [← hd.map]; exact dvs)
  refine ⟨by rw [dpa_len r]; exact sz_of hl, fun a ha => ?_⟩
  have s := Stp.new (o := .tup vs) gh1 ha
  exact q (.t xs) J p2 _ _ _ (g1.trans s.gg) s.gh (Asn.pure_st s j1) (.tup (.inl (.inl upd_same)) (dp_monos s.gg xs vs r))
theorem en_draw {R : List Dat → DS → Asn → (Dat → DS → Prop) → Prop} {X : XK} {p : Addr} {C : DS} {Z : Asn} {ds : List Dat} {Po : Dat → DS → Prop} {P : Dat → Asn → Prop} (hr : A K tr ρ I (.r p :: ds) (dJ K p C J)) (h : R ds C Z Po) (hf : ¬ J.foot p) (hZ : ∀ G H, J.ok G H → Z.ok G H) (zp : ¬ Z.foot p) (hp : ∀ d C', Po d C' → P d (dJ K p C' J)) : EN K (tCall (spN K R) [] X tr) ρ I P := fun G H σ gh en io Q q => hr G H σ gh en io _ fun vs G1 H1 g1 gh1 j1 dvs => by
  rw [List.append_nil]
  exact ⟨G1, ds, p, C, Z, Po, gh1, dvs, j1.1, hZ _ _ j1.2, zp, h, fun d C' po v G2 H2 s k dv => q d _ (hp d C' po) v G2 H2 (g1.trans s.gg) s.gh ⟨k, J.st _ _ _ _ _ (fun a fa (z : a = p) => hf (z ▸ fa)) s j1.2⟩ dv⟩
theorem s_asgN {i : Nat} {P : Dat → Asn → Prop} (h : EN K te ρ I P) (h2 : ∀ d J, P d J → S K us (ρ.set i (some d)) J k) : S K (tSeq (tAsg te (gName i)) us) ρ I k := fun G H σ D gh en io f => h G H σ gh en io _ fun d J p v G1 H1 g1 gh1 j1 dv => h2 d J p G1 H1 _ D gh1 (env_set dv (env_mono g1 en)) j1 (f.mono g1)
theorem s_ret_N {P : Dat → Asn → Prop} {p : Addr} {Po : Dat → DS → Prop} (h : EN K te ρ I P) (h2 : ∀ d L, P d L → ∃ C', L = dJ K p C' J ∧ Po d C') : S K (tRet te) ρ I (outN K p J Po) := fun G H σ D gh en io f => h G H σ gh en io _ fun d L pl v G1 H1 g1 gh1 j1 dv => by
  obtain ⟨C', rfl, po⟩ := h2 d L pl
  exact f v G1 H1 g1 gh1 ⟨d, C', po, j1, dv⟩
/-! ### dicts -/
def valD (kvs : List (Key × PyData)) (k : Key) : Option PyData := (kvs.find? fun kv => decide (kv.1 = k)).map (·.2)
theorem kv_get {G : Hp} {ky : Key} : ∀ {vs : List (Key × V)} {kvs : List (Key × PyData)}, KvAll K G vs kvs → (valD kvs ky = none → valV vs ky = none) ∧ ∀ z, valD kvs ky = some z → ∃ v, valV vs ky = some v ∧ Dp K G v z
  | [], [], _ => ⟨fun _ => rfl, fun z h => by cases h⟩
  | (k1, v1) :: vs, (k2, x2) :: kvs, h => by
    obtain ⟨h1, h2⟩ := h
    have e : k1 = k2 ∧ vs.map (·.1) = kvs.map (·.1) := by simpa using h1
    obtain ⟨rfl, e2⟩ := e
    cases h2 with
    | cons r rr =>
      have ih := kv_get (ky := ky) (vs := vs) (kvs := kvs) ⟨e2, rr⟩
      unfold valD valV at ih ⊢
      by_cases c : k1 = ky
      · rw [List.find?_cons_of_pos (by simpa using c), List.find?_cons_of_pos (by simpa using c)]
        refine ⟨fun z => (by cases z), fun z hz => ?_⟩
        obtain rfl : x2 = z := Option.some.inj hz
        exact ⟨v1, rfl, r⟩
      · rw [List.find?_cons_of_neg (by simpa using c), List.find?_cons_of_neg (by simpa using c)]
        exact ih
  | [], _ :: _, h => by have := h.1; simp at this
  | _ :: _, [], h => by have := h.1; simp at this
theorem kv_mono {G G' : Hp} {vs : List (Key × V)} {kvs : List (Key × PyData)} (e : Same G G') (h : KvAll K G vs kvs) : KvAll K G' vs kvs := ⟨h.1, dp_monos e _ _ h.2⟩
theorem kv_some {G : Hp} {ky : Key} {vs : List (Key × V)} {kvs : List (Key × PyData)} (h : KvAll K G vs kvs) : (valV vs ky).isSome = (valD kvs ky).isSome := by
  obtain ⟨h1, h2⟩ := kv_get (ky := ky) h
  cases e : valD kvs ky with
  | none => rw [h1 e]; rfl
  | some z =>
    obtain ⟨v, hv, _⟩ := h2 z e
    rw [hv]
    rfl
theorem e_kIn {kvs : List (Key × PyData)} {n : Int} (ha : E K ta ρ I (.i n) J) (hb : E K tb ρ J (.k kvs) L) : E K (tDIn ta tb) ρ I (.b (valD kvs (.inl n)).isSome) L := fun G H σ gh en io Q q => ha G H σ gh en io _ fun v G1 H1 g1 gh1 j1 dv => hb G1 H1 σ gh1 (env_mono g1 en) j1 _ fun w G2 H2 g2 gh2 j2 dw => by
  obtain rfl := dv_int dv
  obtain ⟨a, vs, rfl, ha, kv⟩ := dw
  refine ⟨a, valV vs (.inl n), rfl, .inl ⟨vs, .inl n, .of (gh2 _ _ ha), rfl, rfl⟩, ?_⟩
  rw [kv_some kv]
  exact q _ G2 H2 (g1.trans g2) gh2 j2 (.bl _)
theorem e_kNot {kvs : List (Key × PyData)} {n : Int} (ha : E K ta ρ I (.i n) J) (hb : E K tb ρ J (.k kvs) L) : E K (tDNotIn ta tb) ρ I (.b (!(valD kvs (.inl n)).isSome)) L := fun G H σ gh en io Q q => ha G H σ gh en io _ fun v G1 H1 g1 gh1 j1 dv => hb G1 H1 σ gh1 (env_mono g1 en) j1 _ fun w G2 H2 g2 gh2 j2 dw => by
  obtain rfl := dv_int dv
  obtain ⟨a, vs, rfl, ha, kv⟩ := dw
  refine ⟨a, valV vs (.inl n), rfl, .inl ⟨vs, .inl n, .of (gh2 _ _ ha), rfl, rfl⟩, ?_⟩
  rw [kv_some kv]
  exact q _ G2 H2 (g1.trans g2) gh2 j2 (.bl _)
theorem e_kGet {kvs : List (Key × PyData)} {n : Int} (ha : E K ta ρ I (.k kvs) J) (hb : E K tb ρ J (.i n) L) (h : valD kvs (.inl n) = some x) : E K (tDGet ta tb) ρ I (.d x) L := fun G H σ gh en io Q q => ha G H σ gh en io _ fun v G1 H1 g1 gh1 j1 dv => hb G1 H1 σ gh1 (env_mono g1 en) j1 _ fun w G2 H2 g2 gh2 j2 dw => by
  obtain ⟨a, vs, rfl, ha, kv⟩ := dv
  obtain rfl := dv_int dw
  obtain ⟨u, hu, dp⟩ := (kv_get (ky := .inl n) kv).2 x h
  exact ⟨a, u, rfl, .inl ⟨vs, .inl n, .of ((g2.trans gh2) _ _ ha), rfl, hu.symm⟩, q u G2 H2 (g1.trans g2) gh2 j2 (dp_mono g2 _ _ dp)⟩
/-- a dict that may change -/
def kA (K : PySem.W.Frag) (q : Addr) (kvs : List (Key × PyData)) : Asn := ⟨(· = q), fun G H => G q = none ∧ ∃ vs, H q = some (.dK vs) ∧ KvAll K G vs kvs, fun M G H G2 H2 n s ⟨g, vs, h, r⟩ => ⟨s.fr q _ (n q rfl) h g, vs, s.hh q _ (n q rfl) h, kv_mono s.gg r⟩, fun G H a ⟨_, vs, h, _⟩ (z : a = q) => ⟨.dK vs, by rw [z]; exact h⟩⟩
abbrev kJ (K : PySem.W.Frag) (q : Addr) (kvs : List (Key × PyData)) (J : Asn) : Asn := (kA K q kvs).and J
theorem kv_new {G : Hp} {ky : Key} {z : V} {zd : PyData} {vs : List (Key × V)} {kvs : List (Key × PyData)} (h : KvAll K G vs kvs) (hz : Dp K G z zd) (hn : ky ∉ kvs.map (·.1)) : KvAll K G (putK vs ky z) (kvs ++ [(ky, zd)]) ∧ (putK vs ky z).length = vs.length + 1 := by
  have e : (vs.any fun kv => decide (kv.1 = ky)) = false := by
    rw [Bool.eq_false_iff]
    intro w
    rw [List.any_eq_true] at w
    obtain ⟨kv, hm, hk⟩ := w
    refine hn ?_
    rw [← h.1, ← of_decide_eq_true hk]
    exact List.mem_map.mpr ⟨kv, hm, rfl⟩
  unfold putK
  rw [e, if_neg Bool.false_ne_true]
  refine ⟨⟨?_, ?_⟩, by rw [List.length_append]; rfl⟩
  · rw [List.map_append, List.map_append, h.1]
    rfl
  · rw [List.map_append, List.map_append]
    exact dpa_app h.2 (.cons hz .nil)
theorem kv_len {G : Hp} {vs : List (Key × V)} {kvs : List (Key × PyData)} (h : KvAll K G vs kvs) : vs.length = kvs.length := by
  have := congrArg List.length h.1
  simpa using this
/-- x = {} -/
theorem s_newK {i : Nat} (h : ∀ q, ¬ I.foot q → S K us (ρ.set i (some (.r q))) (kJ K q [] I) k) : S K (tSeq (tAsg tDNewK (gName i)) us) ρ I k := fun G H σ D gh en io f => fun p hp => by
  have s := Stp.newM (o := HO.dK []) gh hp
  have gp : G p = none := gh.free hp
  refine h p (fun z => ?_) G _ _ D s.gh (env_set (d := .r p) rfl en) ⟨⟨gp, [], upd_same, rfl, .nil⟩, Asn.pure_st s io⟩ f
  obtain ⟨o, ho⟩ := I.own G H p io z
  rw [ho] at hp
  cases hp
/-- x[n] = e, a new key -/
theorem s_putK {i : Nat} {q : Addr} {n : Int} {kvs : List (Key × PyData)} (he : E K te ρ (kJ K q kvs J) (.d x) (kJ K q kvs J)) (hi : ρ[i]? = some (some (.r q))) (hb : E K tb ρ (kJ K q kvs J) (.i n) (kJ K q kvs J)) (hn : (.inl n : Key) ∉ kvs.map (·.1)) (hl : kvs.length < 100000) (hf : ¬ J.foot q) :
    S K (sDPut (tVar i) tb te) ρ (kJ K q kvs J) (.nx ρ (kJ K q (kvs ++ [(.inl n, x)]) J)) := fun G H σ D gh en io f => he G H σ gh en io _ fun v G1 H1 g1 gh1 j1 dv => by
  obtain ⟨o, ho, rfl⟩ := env_get en hi
  refine ⟨.ref q, ho, hb G1 H1 σ gh1 (env_mono g1 en) j1 _ fun w G2 H2 g2 gh2 j2 dw => ?_⟩
  obtain rfl := dv_int dw
  obtain ⟨⟨gq, vs, hq, r⟩, jo⟩ := j2
  have hlen := kv_len r
  refine ⟨q, _, rfl, DPut.k (k := .inl n) hq (Nat.lt_of_lt_of_le (by omega : vs.length < 100000) (by rw [sizeLine_eq]; decide)), ?_⟩
  have st := Stp.store (o := HO.dK (putK vs (.inl n) v)) gh2 gq hq
  exact f G2 _ σ (g1.trans g2) st.gh (env_mono (g1.trans g2) en) ⟨⟨gq, _, upd_same, (kv_new r (dp_mono g2 _ _ dv) hn).1⟩, J.st _ _ _ _ _ (fun a fa (z : a = q) => hf (z ▸ fa)) st jo⟩
/-- the dict at q changes no more -/
theorem s_freezeK {i : Nat} {q : Addr} {kvs : List (Key × PyData)} (hi : ρ[i]? = some (some (.r q))) (hf : ¬ J.foot q) (hs : S K ts (ρ.set i (some (.k kvs))) J k) : S K ts ρ (kJ K q kvs J) k := fun G H σ D gh en io f => by
  obtain ⟨⟨gq, vs, hq, r⟩, jo⟩ := io
  have st := Stp.frz gh gq hq
  exact hs _ H σ D st.gh (env_putK (z := .k kvs) ⟨q, vs, rfl, upd_same, kv_mono st.gg r⟩ (env_mono st.gg en) hi) (J.st _ _ _ _ _ (fun a fa (z : a = q) => hf (z ▸ fa)) st jo) (f.mono st.gg)
def kvsOf (ks : List Int) (es : List PyData) : List (Key × PyData) := (ks.zip es).map fun p => (.inl p.1, p.2)
theorem kvs_keys {ks : List Int} {es : List PyData} (h : ks.length = es.length) : (kvsOf ks es).map (·.1) = ks.map Sum.inl := by
  unfold kvsOf
  rw [List.map_map]
  show (ks.zip es).map (fun p => (Sum.inl p.1 : Key)) = _
  have e := List.map_fst_zip (l₁ := ks) (l₂ := es) (by omega)
  calc (ks.zip es).map (fun p => (Sum.inl p.1 : Key)) = ((ks.zip es).map Prod.fst).map Sum.inl := by rw [List.map_map]; rfl
    _ = ks.map Sum.inl := by rw [e]
theorem kvs_snoc {ks : List Int} {es : List PyData} {i : Nat} {n : Int} {y : PyData} (h1 : ks[i]? = some n) (h2 : es[i]? = some y) : kvsOf (ks.take (i + 1)) (es.take (i + 1)) = kvsOf (ks.take i) (es.take i) ++ [(.inl n, y)] := by
  unfold kvsOf
  have a1 : i < ks.length := (List.getElem?_eq_some_iff.mp h1).1
  have a2 : i < es.length := (List.getElem?_eq_some_iff.mp h2).1
  rw [List.take_add_one, List.take_add_one, h1, h2, show (some n).toList = [n] from rfl, show (some y).toList = [y] from rfl, List.zip_append (by rw [List.length_take, List.length_take]; omega), List.map_append]
  rfl
/-- {k: e for ..}, keys that are numbers, each once -/
theorem e_dcW {wi : TI} {g : TG} {tk : TE} {vs : List Nat} {n : Nat} {xs : Nat → PyData} {ks : List Int} {es : List PyData} (hl : IW K wi ρ I n xs I) (hk : ks.length = n) (hn : es.length = n) (hz : n ≤ 100000) (nd : ks.Nodup)
    (he : ∀ i m y, i < n → ks[i]? = some m → es[i]? = some y → ∃ ρ', GW K g vs (xs i) (wipeR ρ vs) ρ' ∧ (∀ I', E K tk ρ' I' (.i m) I') ∧ ∀ I', E K te ρ' I' (.d y) I') : E K (tDc wi g tYes tk te vs) ρ I (.k (kvsOf ks es)) I := fun G H σ gh en io Q q =>
  hl G H σ gh en io _ fun Ji G1 H1 g1 gh1 j1 wk D hD => by
    have gD : G1 D = none := gh1.free hD
    have nD : ∀ a, I.foot a → ¬ a = D := fun a fa z => by
      obtain ⟨o, ho⟩ := I.own G1 H1 a j1 fa
      rw [z, hD] at ho
      cases ho
    have st0 := Stp.newM (o := HO.dK []) gh1 hD
    refine ⟨fun i m H' => m = n - i ∧ i ≤ n ∧ ∃ G', Same G1 G' ∧ Same G' H' ∧ I.ok G' H' ∧ (kA K D (kvsOf (ks.take i) (es.take i))).ok G' H' ∧ Stp (· = D) G1 (upd H1 D (.dK [])) G' H', ⟨n, rfl, Nat.zero_le _, G1, Same.refl _, st0.gh, Asn.pure_st st0 j1, ⟨gD, [], upd_same, rfl, .nil⟩, Stp.refl st0.gh⟩, fun i m H' hw => ?_⟩
    obtain ⟨rfl, hi, G', a1, a2, a3, a4, a5⟩ := hw
    by_cases c : i < n
    · have h1 : ks[i]? = some (ks[i]'(by omega)) := List.getElem?_eq_getElem (by omega)
      have h2 : es[i]? = some (es[i]'(by omega)) := List.getElem?_eq_getElem (by omega)
      obtain ⟨ρ', hg, hky, hel⟩ := he i _ _ c h1 h2
      refine .inr ⟨wk.go i G' H' c a1 a2, fun H2 => ∃ G2, Same G1 G2 ∧ Same G2 H2 ∧ I.ok G2 H2 ∧ (kA K D (kvsOf (ks.take (i + 1)) (es.take (i + 1)))).ok G2 H2 ∧ Stp (· = D) G1 (upd H1 D (.dK [])) G2 H2, fun H2 z => ⟨n - (i + 1), by omega, rfl, c, z⟩, fun v H2 y => ?_⟩
      obtain ⟨G2, st, dp⟩ := wk.yld i G' H' v H2 c a1 a2 y
      refine hg G2 H2 _ v _ st.gh (env_wipe (env_mono ((g1.trans a1).trans st.gg) en) vs) dp fun σ' en' hw => ⟨hw.trans (wipe_wipe σ vs), ?_⟩
      refine (show ∀ {F : Bool → Hp → Prop}, F true H2 → tYes σ' H2 F from fun h => h) ?_
      dsimp only
      rw [if_pos rfl]
      refine hky (((kA K D (kvsOf (ks.take i) (es.take i))).and I).and (Asn.since (· = D) G1 (upd H1 D (.dK [])))) G2 H2 _ st.gh en' ⟨⟨Asn.pure_st st a4, Asn.pure_st st a3⟩, a5.trans (st.wide fun _ z => z.elim)⟩ _ fun kv G3 H3 g3 gh3 j3 dk => ?_
      refine hel _ G3 H3 _ gh3 (env_mono g3 en') j3 _ fun y G4 H4 g4 gh4 j4 dy => ?_
      obtain rfl := dv_int dk
      obtain ⟨⟨⟨gq, ws, hq, r2⟩, i3⟩, st3⟩ := j4
      have hlen := kv_len r2
      have nk : (.inl (ks[i]'(by omega)) : Key) ∉ (kvsOf (ks.take i) (es.take i)).map (·.1) := by
        rw [kvs_keys (by rw [List.length_take, List.length_take]; omega)]
        intro z
        obtain ⟨m, hm, e⟩ := List.mem_map.mp z
        cases e
        obtain ⟨j, hj, e⟩ := List.mem_take_iff_getElem.mp hm
        have hji : j < i := by omega
        exact absurd ((List.getElem_inj (h₀ := by omega) (h₁ := by omega) nd).mp e) (by omega)
      have st4 := Stp.store (o := HO.dK (putK ws (.inl (ks[i]'(by omega))) y)) gh4 gq hq
      refine ⟨ws, .inl (ks[i]'(by omega)), rfl, hq, ?_, G4, ((a1.trans st.gg).trans g3).trans g4, st4.gh, I.st _ _ _ _ _ nD st4 i3, ⟨gq, _, upd_same, ?_⟩, st3.trans st4⟩
      · rw [hlen]
        unfold kvsOf
        rw [List.length_map, List.length_zip, List.length_take, List.length_take]
        exact Nat.lt_of_le_of_lt (Nat.le_trans (Nat.min_le_left _ _) (Nat.min_le_left _ _)) (Nat.lt_of_le_of_lt (show i ≤ 100000 by omega) (by rw [sizeLine_eq]; decide))
      · rw [kvs_snoc h1 h2]
        exact (kv_new r2 dy nk).1
    · have ei : i = n := by omega
      subst ei
      obtain ⟨gq, ws, hq, r2⟩ := a4
      have st : Stp (· = D) G' H' (upd G' D (.dK ws)) H' := Stp.frz a2 gq hq
      refine .inl ⟨wk.stop G' H' a1 a2, q _ (upd G' D (.dK ws)) H' ((g1.trans a1).trans st.gg) st.gh (I.st _ _ _ _ _ nD st a3) ⟨D, ws, rfl, upd_same, ?_⟩⟩
      rw [show ks = ks.take i by rw [List.take_of_length_le (by omega)], show es = es.take i by rw [List.take_of_length_le (by omega)]]
      exact kv_mono st.gg r2
/-! ### tuples -/
theorem e_catT {xs ys : List PyData} (ha : E K ta ρ I (.t xs) J) (hb : E K tb ρ J (.t ys) L) (hl : xs.length + ys.length ≤ 100000) : E K (tOp (rCatA K) ta tb) ρ I (.t (xs ++ ys)) L :=
  e_op ha hb fun G H v w gh lo dx dy Q q => by
    cases dx with
    | tup s r =>
      cases dy with
      | tup s2 r2 =>
        rename_i a vs b ws
        have l1 := dpa_len r
        have l2 := dpa_len r2
        refine ⟨a, b, vs, ws, rfl, rfl, same_t gh s, same_t gh s2, by rw [l1, l2]; exact sz_of hl, fun e => ?_, fun _ e => ?_, fun _ _ p hp => ?_⟩
        · subst e
          cases r
          exact q _ G H (Same.refl _) gh lo (.tup s2 r2)
        · subst e
          cases r2
          exact q _ G H (Same.refl _) gh lo (by rw [List.append_nil]; exact .tup s r)
        · have st := Stp.new (o := .tup (vs ++ ws)) gh hp
          exact q _ _ _ st.gg st.gh (Asn.pure_st st lo) (.tup (.inl (.inl upd_same)) (dpa_app (dp_monos st.gg _ _ r) (dp_monos st.gg _ _ r2)))
theorem dpa_rep {G : Hp} {vs : List V} (r : DpAll K G vs ds) : ∀ m : Nat, DpAll K G (List.replicate m vs).flatten (List.replicate m ds).flatten
  | 0 => .nil
  | m + 1 => by
    rw [List.replicate_succ, List.replicate_succ, List.flatten_cons, List.flatten_cons]
    exact dpa_app r (dpa_rep r m)
theorem e_repT {m : Nat} (ha : E K ta ρ I (.t ds) J) (hb : E K tb ρ J (.i (m : Nat)) L) (h1 : ds ≠ []) (h2 : 2 ≤ m) (h3 : m ≤ 1000) (h4 : ds.length ≤ 1000) : E K (tOp (rRepT K) ta tb) ρ I (.t (List.replicate m ds).flatten) L :=
  e_op ha hb fun G H v w gh lo dx dy Q q => by
    obtain rfl := dv_int dy
    cases dx with
    | tup s r =>
      rename_i a vs
      have l1 := dpa_len r
      refine ⟨a, (m : Int), vs, rfl, rfl, same_t gh s, fun e => ?_, by omega, by omega, by omega, fun p hp => ?_⟩
      · subst e
        cases r
        exact h1 rfl
      · rw [Int.toNat_natCast]
        have st := Stp.new (o := .tup (List.replicate m vs).flatten) gh hp
        exact q _ _ _ st.gg st.gh (Asn.pure_st st lo) (.tup (.inl (.inl upd_same)) (dpa_rep (dp_monos st.gg _ _ r) m))
theorem e_tTo {j : Nat} (ha : E K ta ρ I (.t ds) I) (hb : E K tb ρ I (.i (j : Nat)) I) : E K (tSl (rSlA K) ta tNoPart (tPart tb)) ρ I (.t (ds.take j)) I := fun G H σ gh en io Q q =>
  ha G H σ gh en io _ fun v G1 H1 g1 gh1 j1 dv => hb G1 H1 σ gh1 (env_mono g1 en) j1 _ fun w G2 H2 g2 gh2 j2 dw => by
    obtain rfl := dv_int dw
    cases dv with
    | tup s r =>
      rename_i a xs
      have l1 := dpa_len r
      refine ⟨_, rfl, a, xs, rfl, same_t (g2.trans gh2) s, fun h => ?_, fun _ p hp => ?_⟩
      · rw [HT.sIx_none, HT.sIx_nat] at h
        have e : ds.take j = ds := List.take_of_length_le (by omega)
        exact q _ G2 H2 (g1.trans g2) gh2 j2 (by rw [e]; exact .tup (same_t g2 s) (dp_monos g2 _ _ r))
      · rw [cut_to (α := V)]
        have st := Stp.new (o := .tup (xs.take j)) gh2 hp
        exact q _ _ _ ((g1.trans g2).trans st.gg) st.gh (Asn.pure_st st j2) (.tup (.inl (.inl upd_same)) (dpa_take j (dp_monos (g2.trans st.gg) ds xs r)))
theorem e_tFrom {j : Nat} (ha : E K ta ρ I (.t ds) I) (hb : E K tb ρ I (.i (j : Nat)) I) : E K (tSl (rSlA K) ta (tPart tb) tNoPart) ρ I (.t (ds.drop j)) I := fun G H σ gh en io Q q =>
  ha G H σ gh en io _ fun v G1 H1 g1 gh1 j1 dv => hb G1 H1 σ gh1 (env_mono g1 en) j1 _ fun w G2 H2 g2 gh2 j2 dw => by
    obtain rfl := dv_int dw
    cases dv with
    | tup s r =>
      rename_i a xs
      have l1 := dpa_len r
      refine ⟨_, rfl, a, xs, rfl, same_t (g2.trans gh2) s, fun h => ?_, fun _ p hp => ?_⟩
      · rw [HT.sIx_none, HT.sIx_nat] at h
        by_cases c : j = 0
        · subst c
          exact q _ G2 H2 (g1.trans g2) gh2 j2 (by rw [List.drop_zero]; exact .tup (same_t g2 s) (dp_monos g2 _ _ r))
        · have e0 : ds = [] := by
            cases ds with
            | nil => rfl
            | cons x y => rw [List.length_cons] at l1; omega
          subst e0
          exact q _ G2 H2 (g1.trans g2) gh2 j2 (by rw [List.drop_nil]; exact .tup (same_t g2 s) (dp_monos g2 _ _ r))
      · rw [cut_from]
        have st := Stp.new (o := .tup (xs.drop j)) gh2 hp
        exact q _ _ _ ((g1.trans g2).trans st.gg) st.gh (Asn.pure_st st j2) (.tup (.inl (.inl upd_same)) (dpa_drop j (dp_monos (g2.trans st.gg) ds xs r)))
/-! ### loops over the items of a list of one's own -/
theorem s_loopR {α β : Type} {wi : TI} {g : TG} {bs : List β} {f : Nat → β → PyData} {xs : Nat → PyData} {n : Nat} (W : Nat → List β → α → Prop) (P : α → Rho) (V : α → Asn) (a0 : α) (w0 : W 0 bs a0) (hl : IW K wi ρ I n xs (V a0)) (hn : n = bs.length) (hx : ∀ i z, bs[i]? = some z → xs i = f i z) (h0 : ρ = P a0)
    (step : ∀ i z rest a, W i (z :: rest) a → ∃ ρ', GJ K g (f i z) (P a) ρ' ∧ ((∃ a', W (i + 1) rest a' ∧ S K ts ρ' (V a) (.nx (P a') (V a'))) ∨ (k.ret ∧ S K ts ρ' (V a) k)))
    (done : ∀ a i, W i [] a → S K us (P a) (V a) k) : S K (tSeq (tFor wi g ts) us) ρ I k := by
  subst hn
  refine s_loop (fun i a => W i (bs.drop i) a) P V a0 w0 hl h0 (fun i a hi w => ?_) fun a w => ?_
  · have e : bs.drop i = bs[i] :: bs.drop (i + 1) := List.drop_eq_getElem_cons hi
    rw [e] at w
    rw [hx i _ (List.getElem?_eq_getElem hi)]
    exact step i _ _ a w
  · rw [List.drop_of_length_le (Nat.le_refl _)] at w
    exact done a _ w
theorem s_loopR1 {α β : Type} {wi : TI} {g : TG} {bs : List β} {f : Nat → β → PyData} {xs : Nat → PyData} {n : Nat} (W : Nat → List β → α → Prop) (P : α → Rho) (V : α → Asn) (a0 : α) (w0 : W 0 bs a0) (hl : IW K wi ρ I n xs (V a0)) (hn : n = bs.length) (hx : ∀ i z, bs[i]? = some z → xs i = f i z) (h0 : ρ = P a0)
    (step : ∀ i z rest a, W i (z :: rest) a → ∃ ρ', GJ K g (f i z) (P a) ρ' ∧ ((∃ a', W (i + 1) rest a' ∧ S K ts ρ' (V a) (.nx (P a') (V a'))) ∨ (k.ret ∧ S K ts ρ' (V a) k)))
    (done : ∀ a i, W i [] a → S K tNext (P a) (V a) k) : S K (tFor wi g ts) ρ I k := fun G H σ D gh en io f => s_loopR (us := tNext) W P V a0 w0 hl hn hx h0 step done G H σ D gh en io f
theorem at0_map {β : Type} {f : β → PyData} {bs : List β} {i : Nat} {z : β} (h : bs[i]? = some z) : at0 (bs.map f) i = f z := by
  unfold at0
  rw [List.getD_eq_getElem?_getD, List.getElem?_map, h]
  rfl
theorem getElem?_of_map {β : Type} {f : β → PyData} {bs : List β} {i : Nat} {y : PyData} (h : (bs.map f)[i]? = some y) : ∃ z, bs[i]? = some z ∧ y = f z := by
  rw [List.getElem?_map, Option.map_eq_some_iff] at h
  obtain ⟨z, hz, rfl⟩ := h
  exact ⟨z, hz, rfl⟩
theorem e_borrowD {i : Nat} {p q : Addr} {C : DS} (hi : ρ[i]? = some (some (.r q))) (hx : flatD x = true) (h : ∀ I', E K te (ρ.set i (some (.d (.list ds)))) I' (.d x) I') : E K te ρ (dJ K p C (lJ K q ds J)) (.d x) (dJ K p C (lJ K q ds J)) :=
  e_post (J := lJ K q ds (dJ K p C J)) (fun G H z => ⟨z.2.1, z.1, z.2.2⟩) (e_pre (I' := lJ K q ds (dJ K p C J)) (fun G H z => ⟨z.2.1, z.1, z.2.2⟩) (e_borrow hi hx h))
theorem e_borrowD2 {i : Nat} {p q q2 : Addr} {ds2 : List PyData} {C : DS} (hi : ρ[i]? = some (some (.r q2))) (hx : flatD x = true) (h : ∀ I', E K te (ρ.set i (some (.d (.list ds2)))) I' (.d x) I') : E K te ρ (dJ K p C (lJ K q ds (lJ K q2 ds2 J))) (.d x) (dJ K p C (lJ K q ds (lJ K q2 ds2 J))) :=
  e_post (J := lJ K q2 ds2 (dJ K p C (lJ K q ds J))) (fun G H z => ⟨z.2.1, z.2.2.1, z.1, z.2.2.2⟩) (e_pre (I' := lJ K q2 ds2 (dJ K p C (lJ K q ds J))) (fun G H z => ⟨z.2.2.1, z.1, z.2.1, z.2.2.2⟩) (e_borrow hi hx h))
/-- x.append(e), e may draw -/
theorem s_appN {i : Nat} {q : Addr} (he : E K te ρ (lJ K q ds J) (.d x) (lJ K q ds L)) (hi : ρ[i]? = some (some (.r q))) (hl : ds.length < 100000) (hf : ¬ L.foot q) : S K (tDrop (tBM K "list" rAppend (tVar i) (tCons te tNil))) ρ (lJ K q ds J) (.nx ρ (lJ K q (ds ++ [x]) L)) := fun G H σ D gh en io f => by
  obtain ⟨v, hv, rfl⟩ := env_get en hi
  have io' := io
  obtain ⟨⟨gq, vs, hq, r⟩, jo⟩ := io
  refine ⟨.ref q, hv, .inl ⟨rfl, _, .inl (.inl hq)⟩, he G H σ gh en io' _ fun v G1 H1 g1 gh1 j1 dv => ?_⟩
  obtain ⟨⟨gq1, vs1, hq1, r1⟩, jo1⟩ := j1
  have s := Stp.store (o := HO.lst (vs1 ++ [v])) gh1 gq1 hq1
  refine ⟨q, vs1, v, rfl, rfl, hq1, ?_, ?_⟩
  · rw [dpa_len r1]
    exact Nat.lt_of_lt_of_le hl (by decide)
  · exact f G1 _ σ g1 s.gh (env_mono g1 en) ⟨⟨gq1, _, upd_same, dpa_app r1 (.cons dv .nil)⟩, L.st _ _ _ _ _ (fun a fa (z : a = q) => hf (z ▸ fa)) s jo1⟩
/-- x.append(e), e may draw, the list told behind the drawing list -/
theorem s_appD {i : Nat} {p q : Addr} {C C' : DS} (he : E K te ρ (dJ K p C (lJ K q ds J)) (.d x) (dJ K p C' (lJ K q ds J))) (hi : ρ[i]? = some (some (.r q))) (hl : ds.length < 100000) (hf : ¬ J.foot q) (hp : q ≠ p) : S K (tDrop (tBM K "list" rAppend (tVar i) (tCons te tNil))) ρ (dJ K p C (lJ K q ds J)) (.nx ρ (dJ K p C' (lJ K q (ds ++ [x]) J))) :=
  s_pre (I' := lJ K q ds (dJ K p C J)) (fun G H z => ⟨z.2.1, z.1, z.2.2⟩) (s_post (J := lJ K q (ds ++ [x]) (dJ K p C' J)) (fun G H z => ⟨z.2.1, z.1, z.2.2⟩) (s_appN (L := dJ K p C' J) (e_post (J := dJ K p C' (lJ K q ds J)) (fun G H z => ⟨z.2.1, z.1, z.2.2⟩) (e_pre (I' := dJ K p C (lJ K q ds J)) (fun G H z => ⟨z.2.1, z.1, z.2.2⟩) he)) hi hl fun z => z.elim (fun e => hp e) hf))
/-! ### loops whose next state is told by a wish alone -/
theorem s_ne {P : Rho → Asn → Prop} (h : S K ts ρ I (.nx ρ1 J)) (p : P ρ1 J) : S K ts ρ I (.ne P) := fun G H σ D gh en io f => h G H σ D gh en io fun G2 H2 σ2 a b c d => f ρ1 J p G2 H2 σ2 a b c d
theorem s_seqNE {P : Rho → Asn → Prop} (h : S K ts ρ I (.ne P)) (h2 : ∀ ρ1 J, P ρ1 J → S K us ρ1 J k) : S K (tSeq ts us) ρ I k := fun G H σ D gh en io f => h G H σ _ gh en io fun ρ1 J p G1 H1 σ1 g1 gh1 en1 j1 => h2 ρ1 J p G1 H1 σ1 D gh1 en1 j1 (f.mono g1)
theorem s_loopN {α : Type} {wi : TI} {g : TG} {n : Nat} {xs : Nat → PyData} (W : Nat → α → Prop) (P : α → Rho) (V : α → Asn) (a0 : α) (w0 : W 0 a0) (hl : IW K wi ρ I n xs (V a0)) (h0 : ρ = P a0)
    (step : ∀ i a, i < n → W i a → ∃ ρ', GJ K g (xs i) (P a) ρ' ∧ (S K ts ρ' (V a) (.ne fun r L => ∃ a', W (i + 1) a' ∧ r = P a' ∧ L = V a') ∨ (k.ret ∧ S K ts ρ' (V a) k)))
    (done : ∀ a, W n a → S K us (P a) (V a) k) : S K (tSeq (tFor wi g ts) us) ρ I k := fun G H σ D gh en io f => by
  show tFor wi g ts { D with nx := fun σ' H' => us D σ' H' } σ H
  refine hl G H σ gh en io _ fun Ji G1 H1 g1 gh1 j1 wk => ?_
  refine ⟨fun i m σ' H' => m = n - i ∧ i ≤ n ∧ ∃ a G', W i a ∧ Same G1 G' ∧ Same G' H' ∧ EnvD K G' σ' (P a) ∧ (V a).ok G' H', ⟨n, rfl, Nat.zero_le _, a0, G1, w0, Same.refl _, gh1, h0 ▸ env_mono g1 en, j1⟩, fun i m σ' H' hw => ?_⟩
  obtain ⟨rfl, hi, a, G', wa, a1, a2, a3, a4⟩ := hw
  by_cases c : i < n
  · obtain ⟨ρ', hg, hs⟩ := step i a c wa
    rcases hs with hs | ⟨hk, hs⟩
    · refine .inr ⟨wk.go i G' H' c a1 a2, fun σ2 H2 => ∃ a' G2, W (i + 1) a' ∧ Same G1 G2 ∧ Same G2 H2 ∧ EnvD K G2 σ2 (P a') ∧ (V a').ok G2 H2, fun σ2 H2 ⟨a', G2, wa', b1, b2, b3, b4⟩ => ⟨n - (i + 1), by omega, rfl, c, a', G2, wa', b1, b2, b3, b4⟩, fun v H2 y => ?_⟩
      obtain ⟨G2, st, dp⟩ := wk.yld i G' H' v H2 c a1 a2 y
      exact hg G2 H2 σ' v _ st.gh (env_mono st.gg a3) dp fun σ2 en2 => hs G2 H2 σ2 _ st.gh en2 (Asn.pure_st st a4) fun r L ⟨a', wa', e1, e2⟩ G3 H3 σ3 g3 gh3 en3 j3 => ⟨a', G3, wa', (a1.trans st.gg).trans g3, gh3, e1 ▸ en3, e2 ▸ j3⟩
    · refine .inr ⟨wk.go i G' H' c a1 a2, fun _ _ => False, fun _ _ z => z.elim, fun v H2 y => ?_⟩
      obtain ⟨G2, st, dp⟩ := wk.yld i G' H' v H2 c a1 a2 y
      exact hg G2 H2 σ' v _ st.gh (env_mono st.gg a3) dp fun σ2 en2 => hs G2 H2 σ2 _ st.gh en2 (Asn.pure_st st a4) (hk.other (D := D) rfl (((f.mono g1).mono a1).mono st.gg))
  · have e : i = n := by omega
    subst e
    exact .inl ⟨wk.stop G' H' a1 a2, done a wa G' H' σ' D a2 a3 a4 ((f.mono g1).mono a1)⟩
theorem s_asgNE {i : Nat} {P : Dat → Asn → Prop} {P2 : Rho → Asn → Prop} (h : EN K te ρ I P) (h2 : ∀ d J, P d J → P2 (ρ.set i (some d)) J) : S K (tAsg te (gName i)) ρ I (.ne P2) := fun G H σ D gh en io f => h G H σ gh en io _ fun d J p v G1 H1 g1 gh1 j1 dv => f _ J (h2 d J p) G1 H1 _ g1 gh1 (env_set dv (env_mono g1 en)) j1
/-- xs + ys, whose parts draw -/
theorem en_catT {P P2 : Dat → Asn → Prop} (ha : EN K ta ρ I P) (hb : ∀ d J, P d J → ∃ xs, d = .t xs ∧ EN K tb ρ J fun e L => ∃ ys, e = .t ys ∧ xs.length + ys.length ≤ 100000 ∧ P2 (.t (xs ++ ys)) L) : EN K (tOp (rCatA K) ta tb) ρ I P2 := fun G H σ gh en io Q q => ha G H σ gh en io _ fun d J p v G1 H1 g1 gh1 j1 dv => by
  obtain ⟨xs, rfl, hb⟩ := hb d J p
  refine hb G1 H1 σ gh1 (env_mono g1 en) j1 _ fun e L pe w G2 H2 g2 gh2 j2 dw => ?_
  obtain ⟨ys, rfl, hl, p2⟩ := pe
  have dv2 := dv_mono g2 dv
  cases dv2 with
  | tup s r =>
    cases dw with
    | tup s2 r2 =>
      rename_i a vs b ws
      have l1 := dpa_len r
      have l2 := dpa_len r2
      refine ⟨a, b, vs, ws, rfl, rfl, same_t gh2 s, same_t gh2 s2, by rw [l1, l2]; exact sz_of hl, fun e => ?_, fun _ e => ?_, fun _ _ p hp => ?_⟩
      · subst e
        cases r
        exact q _ L p2 _ G2 H2 (g1.trans g2) gh2 j2 (.tup s2 r2)
      · subst e
        cases r2
        exact q _ L p2 _ G2 H2 (g1.trans g2) gh2 j2 (by rw [List.append_nil]; exact .tup s r)
      · have st := Stp.new (o := .tup (vs ++ ws)) gh2 hp
        exact q _ L p2 _ _ _ ((g1.trans g2).trans st.gg) st.gh (Asn.pure_st st j2) (.tup (.inl (.inl upd_same)) (dpa_app (dp_monos st.gg _ _ r) (dp_monos st.gg _ _ r2)))
/-- d.get(n, y) -/
theorem e_kGetOr {kvs : List (Key × PyData)} {n : Int} {z : PyData} (ha : E K ta ρ I (.k kvs) J) (hb : E K tb ρ J (.i n) L) (hc : E K tc ρ L (.d y) N) (h : (valD kvs (.inl n)).getD y = z) : E K (tDGet2 ta tb tc) ρ I (.d z) N := fun G H σ gh en io Q q => ha G H σ gh en io _ fun v G1 H1 g1 gh1 j1 dv => by
  obtain ⟨a, vs, rfl, ha, kv⟩ := dv
  refine ⟨a, rfl, .inl ⟨vs, .of (gh1 _ _ ha)⟩, hb G1 H1 σ gh1 (env_mono g1 en) j1 _ fun w G2 H2 g2 gh2 j2 dw => hc G2 H2 σ gh2 (env_mono (g1.trans g2) en) j2 _ fun u G3 H3 g3 gh3 j3 du => ?_⟩
  obtain rfl := dv_int dw
  refine ⟨valV vs (.inl n), .inl ⟨vs, .inl n, .of (((g2.trans g3).trans gh3) _ _ ha), rfl, rfl⟩, ?_⟩
  obtain ⟨h1, h2⟩ := kv_get (ky := .inl n) kv
  cases e : valD kvs (.inl n) with
  | none =>
    rw [e] at h
    obtain rfl : y = z := h
    rw [h1 e]
    exact q u G3 H3 ((g1.trans g2).trans g3) gh3 j3 du
  | some x =>
    rw [e] at h
    obtain rfl : x = z := h
    obtain ⟨v, hv, dp⟩ := h2 x e
    rw [hv]
    exact q v G3 H3 ((g1.trans g2).trans g3) gh3 j3 (dp_mono (g2.trans g3) _ _ dp)
end
end PL

/-! walks over zip of two -/
namespace PL
open PySem PySem.Spec PyProof.Rows L2 FR GX PX RZ
variable [Nm]

section
variable {K : PySem.W.Frag} {ρ ρ1 : Rho} {I J L N : Asn} {tr : TA} {xs ys : List PyData}
theorem walk_zt {G : Hp} {a b : Addr} {vs ws : List V} (s1 : SqT K G a vs) (s2 : SqT K G b ws) (r1 : DpAll K G vs xs) (r2 : DpAll K G ws ys) (hl : xs.length = ys.length) : Walk K (ItzT K a b) xs.length (fun i => .tuple [at0 xs i, at0 ys i]) G := by
  have l1 := dpa_len r1
  have l2 := dpa_len r2
  refine ⟨fun i G2 H hi a1 a2 => ⟨vs, ws, vs[i]'(by omega), ws[i]'(by omega), same_t (a1.trans a2) s1, same_t (a1.trans a2) s2, List.getElem?_eq_getElem (by omega), List.getElem?_eq_getElem (by omega)⟩, fun G2 H a1 a2 => ⟨vs, ws, same_t (a1.trans a2) s1, same_t (a1.trans a2) s2, .inl (by omega)⟩, fun i G2 H v H' hi a1 a2 y => ?_⟩
  obtain ⟨q, x, y, rfl, nq, rfl, f1, f2⟩ := y
  obtain ⟨w1, h1, p1⟩ := dpa_get r1 (at0_get hi)
  obtain ⟨w2, h2, p2⟩ := dpa_get r2 (at0_get (show i < ys.length by omega))
  obtain rfl : x = w1 := Option.some.inj ((f1 vs (same_t (a1.trans a2) s1)).symm.trans h1)
  obtain rfl : y = w2 := Option.some.inj ((f2 ws (same_t (a1.trans a2) s2)).symm.trans h2)
  have st := Stp.new (o := .tup [x, y]) a2 nq
  have c1 := a1.trans st.gg
  exact ⟨_, st, .tup (.inl (.inl upd_same)) (.cons (dp_mono c1 _ _ p1) (.cons (dp_mono c1 _ _ p2) .nil))⟩
theorem iw_zt (h : A K tr ρ I [.t xs, .t ys] J) (hl : xs.length = ys.length) : IW K (iZipA K tr) ρ I xs.length (fun i => .tuple [at0 xs i, at0 ys i]) J := fun G H σ gh en io R r => h G H σ gh en io _ fun vs G1 H1 g1 gh1 j1 dvs => by
  match vs, dvs with
  | [v1, v2], ⟨d1, d2, _⟩ =>
    cases d1 with
    | tup s1 r1 =>
      cases d2 with
      | tup s2 r2 => exact ⟨_, _, _, _, rfl, .inr ⟨same_t gh1 s1, same_t gh1 s2, r _ G1 H1 g1 gh1 j1 (walk_zt s1 s2 r1 r2 hl)⟩⟩
theorem e_isBl {ta : TE} {c b : Bool} {n : String} (h : kitB "bool" n = some b) (ha : E K ta ρ I (.b c) J) : E K (tCB (rIsi K) (tCons ta (tCons (tC (.ty n)) tNil))) ρ I (.b b) J := fun G H σ gh en io Q q =>
  ha G H σ gh en io _ fun x G1 H1 g1 gh1 j1 dx => by
    obtain rfl := dv_bl dx
    exact ⟨.bl c, .ty n, .type "bool", .type n, b, rfl, .ty n, .base (.bl c), kit_ty h, q _ G1 H1 g1 gh1 j1 (.bl b)⟩
theorem e_allL {bs : List Bool} (hr : A K tr ρ I [.d (.list (bs.map PyData.bool))] J) : E K (tCB (rAll K) tr) ρ I (.b (bs.all id)) J :=
  e_cb hr fun G H vs gh jo h Q q => by
    obtain ⟨v, rfl, h1⟩ := dva1 h
    cases h1 with
    | lst s r =>
      obtain rfl := dpa_bools bs _ r
      exact ⟨_, bs, rfl, gh.seq s, q _ G H (Same.refl _) gh jo (.bl _)⟩
end
end PL

set_option maxHeartbeats 1000000
/-! name = {k: e for ..} -/
namespace PX
open PySem PySem.Spec PyProof.Rows L2
section
variable {X : Cx} {i : Nat} {y : Str} {py : Pos} {kx vx tg iter : Expr} {ifs : List Expr} {scope : Scope} {own : List (Str × Nat)} {pos spos : Pos} {wi : TI} {g : TG} {tt : TT} {tk tv : TE}
theorem sw_trueD {gs : List Comprehension} {l : Nat} {env : Env} (hk : env.scope.kind = .function) (hy : env.scope.names.lookup y = some .local) (hl : (py.line == pos.line) = true) (ha : (scope.names.any fun (n, k) => n == y && (k == .local || k == .cell)) = false) :
    swapsWith (.DictComp kx vx gs scope pos) (some (.Name y py)) l env = pure true := by
  have a1 : env.kindOf y = some .local := hy
  have a2 : env.blockKind = .function := by
    unfold Env.blockKind
    rw [hk]
    rfl
  unfold swapsWith
  simp only [a2, a1, ha, Expr.pos, hl]
  rfl
theorem ps_setDc (hc : X.calm = true) (nd : X.N.Nodup) (at_ : X.N[i]? = some y) (loc : X.env.scope.names.lookup y = some .local) (sw : swapsWith (.DictComp kx vx [⟨tg, iter, ifs, 0⟩] scope pos) (some (.Name y py)) spos.line X.env = pure true) (hi : PI X tg iter wi) (ok : BlkOk X.N X.env.scope scope own)
    (tgt : ∀ (s : Shared) (H : Hp) (C : Addr) (cl : List (Str × Addr)) (fp : List Addr), PG (X.blk s H scope (compEnvC scope cl C X.env) fp) tg g) (tst : ∀ (s : Shared) (H : Hp) (C : Addr) (cl : List (Str × Addr)) (fp : List Addr), PTs (X.blk s H scope (compEnvC scope cl C X.env) fp) ifs tt)
    (key : ∀ (s : Shared) (H : Hp) (C : Addr) (cl : List (Str × Addr)) (fp : List Addr), PE (X.blk s H scope (compEnvC scope cl C X.env) fp) kx tk) (val : ∀ (s : Shared) (H : Hp) (C : Addr) (cl : List (Str × Addr)) (fp : List Addr), PE (X.blk s H scope (compEnvC scope cl C X.env) fp) vx tv)
    (hs : ∀ x, foldedSetIterable iter X.env x = pure x := by intro _; rfl) : PS X (.Assign [.Name y py] (.DictComp kx vx [⟨tg, iter, ifs, 0⟩] scope pos) spos) (tAsg (tDc wi g tt tk tv (own.map (·.2))) (gName i)) := by
  refine ⟨fun pins s σ H D I w => ?_⟩
  rw [exec_Assign_Name_used _ _ _ _ sw]
  refine wpAny_bind (wpAny_standAt (wpAny_bind ?_))
  show wpAny _ X.A (comprehension (.DictComp kx vx [⟨tg, iter, ifs, 0⟩] scope pos) scope X.env (firstIterPos [⟨tg, iter, ifs, 0⟩] pos) newDict false (eval iter X.env) (some (assign (.Name y py) X.env)) >>= _) _ _ s
  have w : tDc wi g tt tk tv (own.map (·.2)) σ H (fun x H1 => gName i x σ H1 D.nx) := w
  refine wpAny_bind (thn (dc_core (Qf := fun _ s' => SP X pins D .next s') hc nd I hi ok tgt tst key val hs w fun L C s' m H' J q hn f => ?_) fun _ s' hq => wpAny_pure (wpAny_pure hq))
  show wpAny _ _ (assign (.Name y py) X.env (.ref L)) _ _ _
  refine wpAny_assign_Name (store_ok2 (v := V.ref L) J nd at_ (.inl loc) rfl (fun s2 J2 ⟨a, sb, ha⟩ => ?_) (.inr loc))
  obtain ⟨f0, f1, f2, f3, f4, f5⟩ := f
  have ne : C ≠ a := ha.elim (fun z => by rw [z]; exact f1) fun z e => f4 y a z e.symm
  refine ⟨m, hn.sameBut sb ne, fun h3 sb3 => ⟨_, H', J2.turned (t' := s2.toks) (fun b o hb e => (sb3.2 b hb).trans e) f0 f1 f3 f4 f5, q⟩⟩
end
end PX

/-! Fractions whose denominators divide a number and whose values are bounded. Plain Lean. -/
namespace FR
/-- D times the value is an integer, the value lies from -B to B -/
structure Sm (D B : Nat) (a : F) : Prop where
  nrm : Nrm a
  int : ∃ z : Int, vl a * (D : Int) = z
  lo : -(B : Int) ≤ vl a
  hi : vl a ≤ (B : Int)
theorem den_dvd {a : F} {D z : Int} (h : Nrm a) (e : vl a * D = z) : a.2 ∣ D := by
  have p := cpos h.1
  have p' : (a.2 : Rat) ≠ 0 := by grind
  have e2 : ((a.1 * D : Int) : Rat) = ((z * a.2 : Int) : Rat) := by
    rw [Rat.intCast_mul, Rat.intCast_mul, ← e]
    unfold vl
    grind
  have e3 : a.1 * D = z * a.2 := Rat.intCast_inj.mp e2
  have d : a.2 ∣ a.1 * D := ⟨z, by rw [e3, Int.mul_comm]⟩
  have d2 := Int.natAbs_dvd_natAbs.mpr d
  rw [Int.natAbs_mul] at d2
  have c : Nat.Coprime a.2.natAbs a.1.natAbs := by
    have := h.2
    unfold Int.gcd at this
    rw [Nat.gcd_comm] at this
    exact this
  exact Int.natAbs_dvd_natAbs.mp (c.dvd_of_dvd_mul_left d2)
theorem Sm.dvd {D B : Nat} {a : F} (h : Sm D B a) : a.2 ∣ (D : Int) := by
  obtain ⟨z, e⟩ := h.int
  exact den_dvd h.nrm e
theorem num_le {a : F} {B : Nat} (h : Nrm a) (l : -(B : Int) ≤ vl a) (u : vl a ≤ (B : Int)) : a.1.natAbs ≤ B * a.2.natAbs := by
  have p := cpos h.1
  have e : (a.1 : Rat) = vl a * a.2 := by
    unfold vl
    grind
  have u1 : ((a.1 : Int) : Rat) ≤ (((B : Int) * a.2 : Int) : Rat) := by
    rw [Rat.intCast_mul, e]
    exact Rat.mul_le_mul_of_nonneg_right u (by grind)
  have l1 : ((-((B : Int) * a.2) : Int) : Rat) ≤ ((a.1 : Int) : Rat) := by
    rw [Rat.intCast_neg, Rat.intCast_mul, e]
    have := Rat.mul_le_mul_of_nonneg_right (c := (a.2 : Rat)) l (by grind)
    grind
  have u2 := Rat.intCast_le_intCast.mp u1
  have l2 := Rat.intCast_le_intCast.mp l1
  have z : ((B * a.2.natAbs : Nat) : Int) = (B : Int) * a.2 := by
    rw [Int.natCast_mul]
    congr 1
    have := h.1
    omega
  omega
theorem Sm.sz {D B k : Nat} {a : F} (h : Sm D B a) (hD : 0 < D) (hk : D < 2 ^ k) (hb : B * D < 2 ^ k) : Sz k a := by
  have d := Int.natAbs_dvd_natAbs.mpr h.dvd
  rw [Int.natAbs_natCast] at d
  have le := Nat.le_of_dvd hD d
  have n := num_le h.nrm h.lo h.hi
  exact ⟨Nat.lt_of_le_of_lt (Nat.le_trans n (Nat.mul_le_mul_left B le)) hb, Nat.lt_of_le_of_lt le hk⟩
theorem Sm.mono {D B E C : Nat} {a : F} (h : Sm D B a) (hd : D ∣ E) (hb : B ≤ C) : Sm E C a := by
  obtain ⟨k, rfl⟩ := hd
  obtain ⟨z, e⟩ := h.int
  have c : ((B : Int) : Rat) ≤ ((C : Int) : Rat) := Rat.intCast_le_intCast.mpr (by omega)
  have l := h.lo
  have u := h.hi
  refine ⟨h.nrm, ⟨z * k, ?_⟩, by grind, by grind⟩
  rw [Rat.intCast_mul, ← e, Int.natCast_mul, Rat.intCast_mul]
  grind
theorem Sm.up {D B C : Nat} {a : F} (h : Sm D B a) (hb : B ≤ C) : Sm D C a := h.mono (Nat.dvd_refl D) hb
theorem Sm.plus {D A B : Nat} {a b : F} (ha : Sm D A a) (hb : Sm D B b) : Sm D (A + B) (plusM a b) := by
  obtain ⟨x, e⟩ := ha.int
  obtain ⟨y, f⟩ := hb.int
  have l1 := ha.lo
  have u1 := ha.hi
  have l2 := hb.lo
  have u2 := hb.hi
  have v := vl_plus ha.nrm hb.nrm
  have c : (((A + B : Nat) : Int) : Rat) = ((A : Int) : Rat) + ((B : Int) : Rat) := by rw [Int.natCast_add, Rat.intCast_add]
  refine ⟨plus_nrm ha.nrm hb.nrm, ⟨x + y, ?_⟩, ?_, ?_⟩
  · rw [v, Rat.intCast_add, ← e, ← f]
    grind
  · rw [v, c]; grind
  · rw [v, c]; grind
theorem Sm.minus {D A B : Nat} {a b : F} (ha : Sm D A a) (hb : Sm D B b) : Sm D (A + B) (minusM a b) := by
  obtain ⟨x, e⟩ := ha.int
  obtain ⟨y, f⟩ := hb.int
  have l1 := ha.lo
  have u1 := ha.hi
  have l2 := hb.lo
  have u2 := hb.hi
  have v := vl_minus ha.nrm hb.nrm
  have c : (((A + B : Nat) : Int) : Rat) = ((A : Int) : Rat) + ((B : Int) : Rat) := by rw [Int.natCast_add, Rat.intCast_add]
  refine ⟨minus_nrm ha.nrm hb.nrm, ⟨x - y, ?_⟩, ?_, ?_⟩
  · rw [v, Rat.intCast_sub, ← e, ← f]
    grind
  · rw [v, c]; grind
  · rw [v, c]; grind
theorem abs_mul {x y A B : Rat} (hA : 0 ≤ A) (h1 : -A ≤ x) (h2 : x ≤ A) (h3 : -B ≤ y) (h4 : y ≤ B) : -(A * B) ≤ x * y ∧ x * y ≤ A * B := by
  have p1 := Rat.mul_nonneg (show 0 ≤ A - x by grind) (show 0 ≤ B - y by grind)
  have p2 := Rat.mul_nonneg (show 0 ≤ A + x by grind) (show 0 ≤ B + y by grind)
  have p3 := Rat.mul_nonneg (show 0 ≤ A - x by grind) (show 0 ≤ B + y by grind)
  have p4 := Rat.mul_nonneg (show 0 ≤ A + x by grind) (show 0 ≤ B - y by grind)
  constructor <;> grind
theorem Sm.times {D E A B : Nat} {a b : F} (ha : Sm D A a) (hb : Sm E B b) : Sm (D * E) (A * B) (timesM a b) := by
  obtain ⟨x, e⟩ := ha.int
  obtain ⟨y, f⟩ := hb.int
  have v := vl_times ha.nrm hb.nrm
  have c : (((A * B : Nat) : Int) : Rat) = ((A : Int) : Rat) * ((B : Int) : Rat) := by rw [Int.natCast_mul, Rat.intCast_mul]
  have c2 : (((D * E : Nat) : Int) : Rat) = ((D : Int) : Rat) * ((E : Int) : Rat) := by rw [Int.natCast_mul, Rat.intCast_mul]
  have m := abs_mul (A := ((A : Int) : Rat)) (B := ((B : Int) : Rat)) (by
    have : ((0 : Int) : Rat) ≤ ((A : Int) : Rat) := Rat.intCast_le_intCast.mpr (by omega)
    exact this) ha.lo ha.hi hb.lo hb.hi
  refine ⟨times_nrm ha.nrm hb.nrm, ⟨x * y, ?_⟩, ?_, ?_⟩
  · rw [v, c2, Rat.intCast_mul, ← e, ← f]
    grind
  · rw [v, c]; exact m.1
  · rw [v, c]; exact m.2
/-- told by its value -/
theorem Sm.of {D B : Nat} {a b : F} (h : Sm D B a) (hb : Nrm b) (e : vl b = vl a) : Sm D B b := by
  rw [vl_inj hb h.nrm e]
  exact h
theorem Sm.lf {D B : Nat} {x y : Int} (hy : 0 < y) (hd : y ∣ (D : Int)) (hb : x.natAbs ≤ B * y.natAbs) : Sm D B (lf x y) := by
  have v := vl_lf (n := x) (d := y) (by omega)
  have p := cpos hy
  have p' : (y : Rat) ≠ 0 := by grind
  obtain ⟨k, ek⟩ := hd
  refine ⟨lf_nrm (by omega), ⟨x * k, ?_⟩, ?_, ?_⟩
  · rw [v, ek, Rat.intCast_mul, Rat.intCast_mul]
    grind
  · rw [v]
    have z : ((-((B : Int) * y) : Int) : Rat) ≤ ((x : Int) : Rat) := Rat.intCast_le_intCast.mpr (by
      have : ((B * y.natAbs : Nat) : Int) = (B : Int) * y := by
        rw [Int.natCast_mul]
        congr 1
        omega
      omega)
    rw [Rat.intCast_neg, Rat.intCast_mul] at z
    refine (le_div_pos p).mpr ?_
    grind
  · rw [v]
    have z : ((x : Int) : Rat) ≤ (((B : Int) * y : Int) : Rat) := Rat.intCast_le_intCast.mpr (by
      have : ((B * y.natAbs : Nat) : Int) = (B : Int) * y := by
        rw [Int.natCast_mul]
        congr 1
        omega
      omega)
    rw [Rat.intCast_mul] at z
    refine (div_le_pos p).mpr ?_
    grind
end FR

set_option exponentiation.threshold 20000
/-! rules of the hand layer: lcm, tuple(list) as it stands, dict of a tuple of pairs, sorted of tuples of data -/
namespace L2
open PySem PySem.Spec PyProof.Rows
section
variable {X : Cx}
/-! ### lcm -/
def rLcm : List V → Hp → VK → Prop := fun vs H Q => ∃ a b : Int, vs = [.int a, .int b] ∧ a.natAbs < 2 ^ 9000 ∧ b.natAbs < 2 ^ 9000 ∧ Q (.int ((Nat.lcm a.natAbs b.natAbs : Nat) : Int)) H
theorem lcm_lt {a b n : Nat} (ha : a < 2 ^ n) (hb : b < 2 ^ n) : Nat.lcm a b < 2 ^ (n + n) := by
  refine Nat.lt_of_le_of_lt (m := a * b) ?_ (by rw [Nat.pow_add]; exact Nat.mul_lt_mul'' ha hb)
  by_cases h : a * b = 0
  · rcases Nat.mul_eq_zero.mp h with rfl | rfl
    · rw [Nat.lcm_zero_left]; exact Nat.zero_le _
    · rw [Nat.lcm_zero_right]; exact Nat.zero_le _
  · exact Nat.le_of_dvd (Nat.pos_of_ne_zero h) (Nat.lcm_dvd_mul a b)
theorem cr_lcm : CallR X (.builtin "math.lcm") rLcm := by
  intro pins s σ H vs us Q I r h
  obtain ⟨a, b, rfl, ha, hb, q⟩ := h
  obtain ⟨t, u, rfl⟩ := Vals.int2 r
  have l1 : (max 1 a.natAbs).log2 ≤ 8999 := PySem.W.mg_log (by
    have : (1 : Nat) < 2 ^ 9000 := Nat.lt_of_lt_of_le (show 1 < 2 ^ 1 by decide) (Nat.pow_le_pow_right (by decide) (by decide))
    show max 1 a.natAbs < 2 ^ 9000
    omega)
  have l2 : (max a.natAbs b.natAbs).log2 ≤ 8999 := PySem.W.mg_log (by show max a.natAbs b.natAbs < 2 ^ 9000; omega)
  have l3 : ((((Nat.lcm 1 a.natAbs).lcm b.natAbs : Nat) : Int)).natAbs.log2 < bitsLine := by
    rw [Nat.lcm_one_left, Int.natAbs_natCast]
    have h1 : (Nat.lcm a.natAbs b.natAbs).log2 ≤ 17999 := PySem.W.mg_log (lcm_lt ha hb)
    rw [bitsLine_eq]
    omega
  have g := PySem.W.mg_run_lcm a t b u (by omega) (by omega) l3
  rw [Nat.lcm_one_left] at g
  exact call_function_meets PySem.W.MGF.kind_lcm PySem.W.MGF.plain_lcm PySem.W.MGF.entry_lcm (PySem.W.MGF.args_lcm _ _) g.meets ⟨.int _, H, I.tok _, ⟨_, rfl⟩, q⟩
/-! ### tuple(xs) of a list, as it stands -/
theorem cr_tupleU : CallR X (.type "tuple") (fun vs H Q => ∃ p ys, vs = [.ref p] ∧ SqL X.K H p ys ∧ ∀ l o, H l = none → o.dict = none → Q (.ref l) (upd H l (.frz o (.tup ys)))) := by
  intro pins s σ H vs us Q I r h
  obtain ⟨p, ys, rfl, hq, q⟩ := h
  obtain ⟨u, rfl, rx⟩ := vals1 r
  cases rx
  obtain ⟨its, rr, pl, hz⟩ := I.list hq
  have hl := rr.length
  refine call_tuple_list pl.isList (fun hp kp => ?_) (by simp only [List.size_toArray] <;> omega)
  have J1 : Inv X pins σ H { s with heap := hp } := I.kept (t' := s.toks) kp
  have hg : (hp.push { cls := .type "tuple", data := .seq its.toArray }).get? hp.objs.size = some { cls := .type "tuple", data := .seq its.toArray } := Heap.get?_push_size _ rfl
  exact ⟨.ref hp.objs.size, _, J1.laid (t' := s.toks) (fun b o e => Heap.get?_push_of_some _ e) (Nat.le_refl _) (show ObjOk X.prog X.w _ _ _ (.frz { cls := .type "tuple", data := .seq its.toArray } (.tup ys)) from ⟨hg, hz, its, rr, IsTup.new _ _⟩), rfl, q _ _ (J1.hok.fresh (Nat.le_refl _)) rfl⟩
/-! ### dict(xs) of a tuple of pairs -/
theorem pairs_both {pins : List (Addr × Obj)} {σ : St} {H : Hp} {s : Shared} (I : Inv X pins σ H s) : ∀ {ps : List Addr} {kvs : List (Key × V)}, Paired (fun p kv => SqT X.K H p [kV kv.1, kv.2]) ps kvs →
    ∃ (prs : List (Key × Value)) (uv : List (Value × Value)), KV kvs prs ∧ prs.length = ps.length ∧ uv.length = ps.length ∧ (∀ (j : Nat) (k v : Value), uv[j]? = some (k, v) → (∃ b, ps[j]? = some b ∧ IsTup s.heap b #[k, v]) ∧ ∃ q, prs[j]? = some (q, v) ∧ keyIs q k = true)
  | _, _, .nil => ⟨[], [], .nil, rfl, rfl, fun j k v e => by simp at e⟩
  | _, _, .cons (a := p) (b := kv) h t => by
    obtain ⟨prs, uv, rk, l1, l2, all⟩ := pairs_both I t
    obtain ⟨its, rr, ht, _⟩ := I.tuple h
    obtain ⟨u, y, rfl, ru, ry⟩ := vals2 rr
    refine ⟨(kv.1, y) :: prs, (u, y) :: uv, .cons ⟨rfl, ry⟩ rk, congrArg Nat.succ l1, congrArg Nat.succ l2, fun j k v e => ?_⟩
    cases j with
    | zero =>
      obtain ⟨rfl, rfl⟩ := Prod.mk.inj (Option.some.inj e)
      exact ⟨⟨p, rfl, ht⟩, _, rfl, kV_is (P := X.prog) (w := X.w) ru⟩
    | succ j =>
      obtain ⟨⟨b, e1, e2⟩, e3⟩ := all j k v (by simpa using e)
      exact ⟨⟨b, by simpa using e1, e2⟩, by simpa using e3⟩
def rDictU (K : PySem.W.Frag) : List V → Hp → VK → Prop := fun xs H Q => ∃ (a : Addr) (o : Obj) (ps : List Addr) (kvs : List (Key × V)), xs = [.ref a] ∧ H a = some (.frz o (.tup (ps.map V.ref))) ∧ o.dict = none ∧ Paired (fun p kv => SqT K H p [kV kv.1, kv.2]) ps kvs ∧ ∀ p, H p = none → Q (.ref p) (upd H p (.dK (mergeK [] kvs)))
theorem cr_dictU (hc : X.calm = true) : CallR X (.type "dict") (rDictU X.K) := by
  intro pins s σ H xs us Q I r h
  obtain ⟨a, o, ps, kvs, rfl, ha, hd, hp, q⟩ := h
  obtain ⟨u, rfl, rx⟩ := vals1 r
  cases rx
  obtain ⟨hg, hz, its, rr, hT⟩ := (show ObjOk X.prog X.w H s.heap a (.frz o (.tup (ps.map V.ref))) from I.hok a _ ha)
  obtain rfl := refs_at rr
  obtain ⟨o2, hg2, hcl, n, hdat⟩ := hT
  rw [hg] at hg2
  obtain rfl := Option.some.inj hg2
  obtain ⟨prs, uv, rk, l1, l2, all⟩ := pairs_both I hp
  rw [List.length_map] at hz
  refine PySem.call_dict_pairs (knd := mixKind X.prog X.w) (kvs := prs) (PySem.PairArg.tuple a (ps.map Value.ref).toArray (fun j => ps.getD j 0) uv) (I.ok.hd hc) ⟨⟨o, n, hg, hcl, hd, hdat⟩, by simp [l2], fun j k v e => ?_⟩ ⟨by omega, fun j k v e => ?_⟩ (by omega) fun hp2 tk hD hk => ?_
  · obtain ⟨⟨b, e1, e2⟩, _⟩ := all j k v e
    have e3 : ps.getD j 0 = b := by rw [List.getD_eq_getElem?_getD, e1]; rfl
    dsimp only
    rw [e3]
    exact ⟨by simp [e1], .inl e2⟩
  · obtain ⟨_, w, e1, e2⟩ := all j k v e
    exact ⟨w, e1, e2⟩
  · have hm : (s.heap.objs.size == sysModules) = false := beq_eq_false_iff_ne.mpr (Nat.ne_of_gt I.big)
    have hlen : (mergeK [] kvs).length ≤ sizeLine := by
      have h1 := length_mergeK kvs []
      have h2 := rk.length
      rw [List.length_nil] at h1
      omega
    exact ⟨.ref s.heap.objs.size, _, I.laid (t' := tk) (fun b u e => hk b u (by simp) e) (Nat.le_refl _) (show ObjOk X.prog X.w _ _ _ (.dK (mergeK [] kvs)) from ⟨hlen, hm, merged [] prs, KV.merge rk .nil, hD⟩), rfl, q _ (I.hok.fresh (Nat.le_refl _))⟩
end
end L2
/-! ### sorted(xs), xs a list of tuples of data, told by a key of three ints -/
namespace SrtD
open PySem PySem.Spec PyProof.Rows SrtO Srt
abbrev K3 := Int × Int × Int
def lex3 (p q : K3) : Bool := decide (p.1 < q.1 ∨ (p.1 = q.1 ∧ (p.2.1 < q.2.1 ∨ (p.2.1 = q.2.1 ∧ p.2.2 < q.2.2))))
theorem lex3_swo : Swo lex3 := ⟨fun x y h => by
  unfold lex3 at h ⊢
  rw [decide_eq_true_iff] at h
  rw [decide_eq_false_iff_not]
  omega, fun x y z h1 h2 => by
  unfold lex3 at h1 h2 ⊢
  rw [decide_eq_false_iff_not] at h1 h2 ⊢
  omega⟩
theorem lex3_map {α : Type} (k : α → K3) : Swo fun x y => lex3 (k x) (k y) := ⟨fun x y h => lex3_swo.asym _ _ h, fun x y z h1 h2 => lex3_swo.tr _ _ _ h1 h2⟩
/-- how two rows are told apart: by ints, or not at all -/
def lexL : List PyData → List PyData → Option Bool
  | [], [] => some false
  | x :: xs, y :: ys => if PyData.eqv x y = true then lexL xs ys else match x, y with
    | .int a, .int b => some (decide (a < b))
    | _, _ => none
  | _, _ => none
section
variable {prog : Program} {w : World} {A : Around} {s : Shared} {Q : Bool → Shared → Prop}
theorem kat_data (hu : A.units + 64 < cLine) : ∀ {ds es : List PyData} {us ws : List Value} {as bs : List Addr} {fin c : Bool} (i : Nat), ReadsAll s.heap us ds as → ReadsAll s.heap ws es bs → (∀ x ∈ ds, SeqAt.shaped x = true) → (∀ x ∈ es, SeqAt.shaped x = true) → fin = decide (us.length < ws.length) → lexL ds es = some c → Q c s → PySem.W.KatLex prog w A true fin Q (us.zip ws) i s
  | [], [], _, _, _, _, fin, c, i, .nil, .nil, _, _, hf, hc, hq => by
    obtain rfl := Option.some.inj hc
    exact PySem.W.kat_nil (by rw [hf]; exact hq)
  | [], _ :: _, _, _, _, _, _, _, _, _, _, _, _, _, hc, _ => by cases hc
  | _ :: _, [], _, _, _, _, _, _, _, _, _, _, _, _, hc, _ => by cases hc
  | d :: ds, e :: es, _, _, _, _, fin, c, i, .cons (v := u) (vs := us) r1 s1, .cons (v := v) (vs := ws) r2 s2, hd, he, hf, hc, hq => by
    have sd := hd d List.mem_cons_self
    have se := he e List.mem_cons_self
    rw [List.zip_cons_cons]
    refine PySem.W.kat_cons (SeqAt.eqAt_reads d e A s u v _ _ r1 r2 (SeqAt.canLay_of_shaped sd) (SeqAt.canLay_of_shaped se) (SeqAt.room_of_shaped sd hu) prog w _ _ ?_)
    unfold lexL at hc
    refine PySem.W.kat_go (fun e1 => ?_) (fun e1 => ?_)
    · rw [if_pos e1] at hc
      exact PySem.W.kat_yes (kat_data hu (i + 1) s1 s2 (fun x hx => hd x (List.mem_cons_of_mem _ hx)) (fun x hx => he x (List.mem_cons_of_mem _ hx)) (by rw [hf, decide_eq_decide, List.length_cons, List.length_cons]; omega) hc hq)
    · rw [if_neg (by rw [e1]; decide)] at hc
      obtain ⟨a, rfl⟩ : ∃ a, d = .int a := by cases d <;> first | exact ⟨_, rfl⟩ | simp at hc
      obtain ⟨b, rfl⟩ : ∃ b, e = .int b := by cases e <;> first | exact ⟨_, rfl⟩ | simp at hc
      have hc : decide (a < b) = c := by simpa using hc
      subst hc
      cases r1
      cases r2
      exact PySem.W.kat_no (TS.oneLt_ints _ hq)
end
end SrtD

/-! ### rows: tuples that begin with three ints -/
namespace SrtD
open PySem PySem.Spec PyProof.Rows SrtO Srt
def key3 : PyData → K3
  | .tuple (.int a :: .int b :: .int c :: _) => (a, b, c)
  | _ => (0, 0, 0)
def Row3 (d : PyData) : Prop := ∃ (a b c : Int) (r : List PyData), d = .tuple (.int a :: .int b :: .int c :: r) ∧ ∀ x ∈ r, SeqAt.shaped x = true
theorem shaped_int (a : Int) : SeqAt.shaped (.int a) = true := by rfl
theorem lexL_self : ∀ (r : List PyData), (∀ x ∈ r, SeqAt.shaped x = true) → lexL r r = some false
  | [], _ => rfl
  | x :: r, h => by
    unfold lexL
    rw [if_pos (SeqAt.eqv_refl x (SeqAt.canLay_of_shaped (h x List.mem_cons_self)))]
    exact lexL_self r fun y hy => h y (List.mem_cons_of_mem _ hy)
theorem eqv_ints {a b : Int} : (PyData.eqv (.int a) (.int b) = true) = (a = b) := by
  simp [PyData.eqv]
theorem lexL_row {a b c a' b' c' : Int} {r r' : List PyData} (h : ∀ x ∈ r, SeqAt.shaped x = true) (hk : (a, b, c) = (a', b', c') → r = r') : lexL (.int a :: .int b :: .int c :: r) (.int a' :: .int b' :: .int c' :: r') = some (lex3 (a, b, c) (a', b', c')) := by
  unfold lex3
  rw [lexL, lexL, lexL]
  simp only [eqv_ints]
  by_cases e1 : a = a'
  · rw [if_pos e1]
    by_cases e2 : b = b'
    · rw [if_pos e2]
      by_cases e3 : c = c'
      · subst e1 e2 e3
        rw [if_pos rfl, ← hk rfl, lexL_self r h]
        congr 1
        symm
        rw [decide_eq_false_iff_not]
        try dsimp only
        omega
      · rw [if_neg e3]
        congr 1
        rw [decide_eq_decide]
        try dsimp only
        omega
    · rw [if_neg e2]
      congr 1
      rw [decide_eq_decide]
      try dsimp only
      omega
  · rw [if_neg e1]
    congr 1
    rw [decide_eq_decide]
    try dsimp only
    omega
def IsRow (h : Heap) (v : Value) (d : PyData) : Prop := Row3 d ∧ ∃ as, Reads h v d as
theorem IsRow.keeps {h h' : Heap} {v : Value} {d : PyData} (p : IsRow h v d) (hk : ∀ b o, h.get? b = some o → h'.get? b = some o) : IsRow h' v d := ⟨p.1, p.2.imp fun _ r => PyProof.Rows.Reads.keeps hk r⟩
abbrev ltR (f : Value → PyData) (v u : Value) : Bool := lex3 (key3 (f v)) (key3 (f u))
section
variable {prog : Program} {w : World} {A : Around} {s : Shared}
theorem row_cmp {vs : List Value} {f : Value → PyData} (hu : A.units + 64 < cLine) (hp : ∀ v ∈ vs, IsRow s.heap v (f v)) (uq : ∀ v ∈ vs, ∀ u ∈ vs, key3 (f v) = key3 (f u) → f v = f u) : Cmp prog w A s (tuples' true) (fun p => p.1 ∈ vs) (lt2 (ltR f)) := by
  intro p q hm hm'
  show wpAny (model prog w) A (keyLt' (tuples' true) p.1 q.1) (fun r s' => s' = s ∧ r = lex3 (key3 (f p.1)) (key3 (f q.1))) (fun _ _ => False) s
  have hq := uq _ hm _ hm'
  obtain ⟨⟨a, b, c, r, e1, s1⟩, as, r1⟩ := hp _ hm
  obtain ⟨⟨a', b', c', r', e2, s2⟩, bs, r2⟩ := hp _ hm'
  generalize p.1 = v at *
  generalize q.1 = u at *
  rw [e1, e2] at hq ⊢
  rw [e1] at r1
  rw [e2] at r2
  have hl := lexL_row (r' := r') (a' := a') (b' := b') (c' := c') s1 fun z => by
    have z2 := hq z
    injection z2 with z2
    simpa using (List.cons.inj (List.cons.inj (List.cons.inj z2).2).2).2
  cases r1 with
  | tuple h1 h2 h3 h4 =>
    cases r2 with
    | tuple g1 g2 g3 g4 =>
      refine PySem.W.kat_lt h1 h3 g1 g3 ?_
      refine kat_data hu 0 h4 g4 (fun x hx => ?_) (fun x hx => ?_) (by simp) hl ⟨rfl, rfl⟩
      · simp only [List.mem_cons] at hx
        rcases hx with rfl | rfl | rfl | hx
        · rfl
        · rfl
        · rfl
        · exact s1 x hx
      · simp only [List.mem_cons] at hx
        rcases hx with rfl | rfl | rfl | hx
        · rfl
        · rfl
        · rfl
        · exact s2 x hx
theorem row_firsts {h : Heap} {f : Value → PyData} : ∀ {vs : List Value}, (∀ v ∈ vs, IsRow h v (f v)) → ∃ fs : List Value, PySem.W.KatTups h vs fs ∧ fs.length = vs.length ∧ ∀ u ∈ fs, ∃ x t, u = Value.int x t
  | [], _ => ⟨[], PySem.W.KatTups.nil, rfl, fun _ hm => by simp at hm⟩
  | v :: vs, hp => by
    obtain ⟨fs, h1, h2, h3⟩ := row_firsts (vs := vs) fun v' hm => hp v' (List.mem_cons_of_mem _ hm)
    obtain ⟨⟨a, b, c, r, e, _⟩, as, rr⟩ := hp v List.mem_cons_self
    rw [e] at rr
    cases rr with
    | tuple ho hc hd h4 =>
      generalize hL : Array.toList _ = L at h4
      cases h4 with
      | cons r1 _ =>
        cases r1 with
        | int _ t =>
          refine ⟨.int a t :: fs, PySem.W.KatTups.cons ho hc hd (by rw [← Array.getElem?_toList, hL]; rfl) h1, by rw [List.length_cons, List.length_cons, h2], fun u hm => ?_⟩
          rcases List.mem_cons.mp hm with rfl | hm
          · exact ⟨a, t, rfl⟩
          · exact h3 u hm
theorem rows_sortable {a : Addr} {vs : List Value} {f : Value → PyData} {h0 : Heap} (hu : A.units + 64 < cLine) (hn : 0 < vs.length) (hp : ∀ v ∈ vs, IsRow h0 v (f v)) (uq : ∀ v ∈ vs, ∀ u ∈ vs, key3 (f v) = key3 (f u) → f v = f u) (ha : ∀ b o, h0.get? b = some o → b ≠ a ∧ s.heap.get? b = some o) : SortableO prog w A s a vs (ltR f) := by
  intro h' keep
  have hp' : ∀ v ∈ vs, IsRow h' v (f v) := fun v hm => (hp v hm).keeps fun b o e => keep b o (ha b o e).1 (ha b o e).2
  obtain ⟨fs, h1, h2, h3⟩ := row_firsts hp'
  refine ⟨tuples' true, fun Q E hq => ?_, row_cmp hu hp' uq⟩
  refine PySem.W.kat_kind (T := .type "int") h1 (by omega) (fun u hm => ?_) (by rfl) ?_
  · obtain ⟨x, t, rfl⟩ := h3 u hm
    exact PySem.W.Looks.now
  · have e : (Value.type "int" != Value.type "tuple") = true := by first | decide +kernel | rfl | decide
    rw [e]
    exact hq
theorem sorted_rows {l : Addr} {vs : List Value} {f : Value → PyData} {Q : Value → Shared → Prop} {E : Value → Shared → Prop} (hu : A.in1.in1.units + 64 < cLine) (hl : s.heap.IsList l vs.toArray) (hz : vs.length ≤ sizeLine) (hp : ∀ v ∈ vs, IsRow s.heap v (f v)) (uq : ∀ v ∈ vs, ∀ u ∈ vs, key3 (f v) = key3 (f u) → f v = f u)
    (h : ∀ (h' : Heap) (d : Addr) (out : List Value), Srtd (ltR f) out → Stb (ltR f) out vs → (∀ b o, s.heap.get? b = some o → h'.get? b = some o) → s.heap.objs.size ≤ d → (∃ n, h'.get? d = some (seqObj "list" out.toArray n)) → Q (.ref d) { s with heap := h' }) :
    wpAny (model prog w) A (call (.builtin "sorted") [.ref l]) Q E s := by
  refine sorted_ord (lex3_map fun v => key3 (f v)) hl hz (fun h2 h₁ a ha kk => ?_) fun out hs hb => ?_
  · exact rows_sortable (s := { s with heap := h₁ }) (h0 := s.heap) hu (by omega) hp uq kk
  · exact h _ _ out hs hb (fun b o e => sortedAll_old e) (Nat.le_succ _) (sortedAll_at s.heap vs out.toArray)
end
end SrtD
namespace L2
open PySem PySem.Spec PyProof.Rows SrtD
section
variable {X : Cx}
theorem dpa_mk {K : PySem.W.Frag} {H : Hp} {f : Value → PyData} : ∀ {us : List Value}, (∀ u ∈ us, Dp K H (backV u) (f u)) → DpAll K H (us.map backV) (us.map f)
  | [], _ => .nil
  | _ :: _, h => .cons (h _ List.mem_cons_self) (dpa_mk fun v hv => h v (List.mem_cons_of_mem _ hv))
def rSort3 (K : PySem.W.Frag) : List V → Hp → VK → Prop := fun vs H Q => ∃ (a : Addr) (xs : List V) (ds : List PyData), vs = [V.ref a] ∧ SqL K H a xs ∧ DpAll K H xs ds ∧ (∀ d ∈ ds, Row3 d) ∧ (ds.map key3).Nodup ∧
  ∀ ys es p, (∀ G', DpAll K G' xs ds → DpAll K G' ys es) → es.Perm ds → es.Pairwise (fun x y => lex3 (key3 y) (key3 x) = false) → H p = none → Q (.ref p) (upd H p (.lst ys))
theorem dpa_at {K : PySem.W.Frag} {H : Hp} {f : Value → PyData} : ∀ {us : List Value}, DpAll K H (us.map backV) (us.map f) → ∀ u ∈ us, Dp K H (backV u) (f u)
  | [], _ => fun u hu => absurd hu (by simp)
  | v :: us, .cons a b => fun u hu => by
    rcases List.mem_cons.mp hu with rfl | hu
    · exact a
    · exact dpa_at b u hu
theorem canAll {ds : List PyData} (h : ∀ d ∈ ds, d.canLay0 = true) : PyData.canLayAll0 ds = true := by
  induction ds with
  | nil => rfl
  | cons d ds ih => exact Bool.and_eq_true_iff.mpr ⟨h d List.mem_cons_self, ih fun x hx => h x (List.mem_cons_of_mem _ hx)⟩
theorem row_lay {d : PyData} (h : Row3 d) : d.canLay0 = true := by
  obtain ⟨a, b, c, r, rfl, hr⟩ := h
  show PyData.canLayAll0 _ = true
  refine canAll fun x hx => ?_
  simp only [List.mem_cons] at hx
  rcases hx with rfl | rfl | rfl | hx
  · rfl
  · rfl
  · rfl
  · exact SeqAt.canLay_of_shaped (hr x hx)
theorem inj_of {α β : Type} {g : α → β} : ∀ {ds : List α}, (ds.map g).Nodup → ∀ d ∈ ds, ∀ e ∈ ds, g d = g e → d = e
  | [], _ => fun d hd => absurd hd (by simp)
  | x :: ds, h => fun d hd e he q => by
    rw [List.map_cons, List.nodup_cons] at h
    rcases List.mem_cons.mp hd with e1 | hd <;> rcases List.mem_cons.mp he with e2 | he
    · rw [e1, e2]
    · exact absurd (List.mem_map.mpr ⟨e, he, by rw [← q, e1]⟩) h.1
    · exact absurd (List.mem_map.mpr ⟨d, hd, by rw [q, e2]⟩) h.1
    · exact inj_of h.2 d hd e he q
theorem cr_sort3 (hu : X.A.in1.in1.units + 64 < cLine) : CallR X (.builtin "sorted") (rSort3 X.K) := by
  intro pins s σ H vs us Q I r h
  obtain ⟨a, xs, ds, rfl, hs, hd, hr, nd, q⟩ := h
  obtain ⟨its, rv, hl, hz⟩ := I.list hs
  obtain rfl := Vals.ref1 r
  obtain ⟨as, rr⟩ := Dp.readsAll I ds _ its hd rv
  have hc := canAll fun d m => row_lay (hr d m)
  have e0 : its.map (SeqAt.readOf s.heap) = ds := SeqAt.readsAll_map ds its as hc rr
  have hx : ∀ x ∈ xs, ∃ t, x = V.ref t := fun x hx => by
    obtain ⟨i, hi, e⟩ := List.getElem_of_mem hx
    have : ∀ {xs : List V} {ds : List PyData}, DpAll X.K H xs ds → (∀ d ∈ ds, Row3 d) → ∀ x ∈ xs, ∃ t, x = V.ref t := by
      intro xs
      induction xs with
      | nil => intro ds _ _ x hx; simp at hx
      | cons y ys ih =>
        intro ds h1 h2 x hx
        cases h1 with
        | cons p1 p2 =>
          rcases List.mem_cons.mp hx with rfl | hx
          · obtain ⟨_, _, _, _, rfl, _⟩ := h2 _ List.mem_cons_self
            cases p1
            exact ⟨_, rfl⟩
          · exact ih p2 (fun d hd => h2 d (List.mem_cons_of_mem _ hd)) x hx
    exact this hd hr x hx
  obtain ⟨e1, e2⟩ := refs_back rv hx
  have hrow : ∀ v ∈ its, IsRow s.heap v (SeqAt.readOf s.heap v) := by
    have : ∀ {its : List Value} {ds : List PyData} {as : List Addr}, ReadsAll s.heap its ds as → (∀ d ∈ ds, Row3 d) → ∀ v ∈ its, IsRow s.heap v (SeqAt.readOf s.heap v) := by
      intro its
      induction its with
      | nil => intro ds as _ _ x hx; simp at hx
      | cons y ys ih =>
        intro ds as h1 h2 x hx
        cases h1 with
        | cons p1 p2 =>
          rcases List.mem_cons.mp hx with rfl | hx
          · rw [SeqAt.readOf_eq (row_lay (h2 _ List.mem_cons_self)) p1]
            exact ⟨h2 _ List.mem_cons_self, _, p1⟩
          · exact ih p2 (fun d hd => h2 d (List.mem_cons_of_mem _ hd)) x hx
    exact this rr hr
  have uq : ∀ v ∈ its, ∀ u ∈ its, key3 (SeqAt.readOf s.heap v) = key3 (SeqAt.readOf s.heap u) → SeqAt.readOf s.heap v = SeqAt.readOf s.heap u := fun v hv u hu z => by
    refine inj_of nd _ ?_ _ ?_ z
    · rw [← e0]; exact List.mem_map.mpr ⟨v, hv, rfl⟩
    · rw [← e0]; exact List.mem_map.mpr ⟨u, hu, rfl⟩
  refine sorted_rows (f := SeqAt.readOf s.heap) hu hl.isList (by rw [← rv.length]; exact hz) hrow uq fun h' d out h1 h2 kp hd2 hn => ?_
  have h3 : ∀ u ∈ out, ∃ a, u = Value.ref a := fun u hu => e2 u (h2.perm.mem_iff.mp hu)
  obtain ⟨n, hn⟩ := hn
  refine ⟨.ref d, upd H d (.lst (out.map backV)), I.laid (t' := s.toks) kp hd2 ⟨?_, out, n, vals_back h3, hn⟩, rfl, q _ (out.map (SeqAt.readOf s.heap)) d (fun G' hG => dpa_mk fun u hu => dpa_at (f := SeqAt.readOf s.heap) (by rw [← e1, e0]; exact hG) u (h2.perm.mem_iff.mp hu)) ?_ ?_ (I.hok.fresh hd2)⟩
  · rw [List.length_map, h2.perm.length_eq, ← rv.length]
    exact hz
  · rw [← e0]
    exact h2.perm.map _
  · exact List.pairwise_map.mpr h1
end
end L2

set_option exponentiation.threshold 20000
/-! data rules: lcm, plain tuples, dict of a plain tuple of pairs, sorted rows -/
namespace PL
open PySem PySem.Spec PyProof.Rows L2
variable [Nm]
section
variable {K : PySem.W.Frag} {ρ : Rho} {I J L : Asn} {te : TE} {tr : TA}
theorem hu3 {A : Around} {k : Nat} (hr : Room k A) : A.in1.in1.units + 64 < cLine := by
  have := hr.un
  show A.units + 1 + 1 + 64 < cLine
  omega
theorem e_lcm {i j : Int} (hr : A K tr ρ I [.i i, .i j] J) (hi : i.natAbs < 2 ^ 9000) (hj : j.natAbs < 2 ^ 9000) : E K (tCB rLcm tr) ρ I (.i ((Nat.lcm i.natAbs j.natAbs : Nat) : Int)) J :=
  e_cb hr fun G H vs gh jo h Q q => by
    obtain ⟨v, w, rfl, h1, h2⟩ := dva2 h
    obtain rfl := dv_int h1
    obtain rfl := dv_int h2
    exact ⟨i, j, rfl, hi, hj, q _ G H (Same.refl _) gh jo (.int _)⟩
abbrev rTupU (K : PySem.W.Frag) : List V → Hp → VK → Prop := fun vs H Q => ∃ p ys, vs = [.ref p] ∧ SqL K H p ys ∧ ∀ l o, H l = none → o.dict = none → Q (.ref l) (upd H l (.frz o (.tup ys)))
theorem e_tupU {ds : List PyData} (hr : A K tr ρ I [.d (.list ds)] J) : E K (tCB (rTupU K) tr) ρ I (.u ds) J :=
  e_cb hr fun G H vs gh jo h Q q => by
    obtain ⟨v, rfl, h1⟩ := dva1 h
    cases h1 with
    | lst s r =>
      rename_i a xs
      refine ⟨_, _, rfl, gh.seq s, fun l o hl ho => ?_⟩
      have st := Stp.new (o := .frz o (.tup xs)) gh hl
      exact q _ _ _ st.gg st.gh (Asn.pure_st st jo) ⟨l, o, xs, rfl, upd_same, ho, dp_monos st.gg ds _ r⟩
theorem u2t {G : Hp} {v : V} {xs : List PyData} (h : Dv K G v (.u xs)) : Dv K G v (.t xs) := by
  obtain ⟨a, o, vs, rfl, h2, _, h4⟩ := h
  exact .tup (.inl (.inr ⟨o, h2⟩)) h4
theorem e_u2t {xs : List PyData} (h : E K te ρ I (.u xs) J) : E K te ρ I (.t xs) J := fun G H σ gh en io Q q => h G H σ gh en io Q fun v G1 H1 g1 gh1 j1 dv => q v G1 H1 g1 gh1 j1 (u2t dv)
abbrev prV (z : Int × PyData) : PyData := .tuple [.int z.1, z.2]
abbrev prK (z : Int × PyData) : Key × PyData := (.inl z.1, z.2)
theorem prs_of {G : Hp} : ∀ {kps : List (Int × PyData)} {vs : List V}, DpAll K G vs (kps.map prV) → ∃ (ps : List Addr) (kvs : List (Key × V)), vs = ps.map V.ref ∧ Paired (fun p kv => SqT K G p [kV kv.1, kv.2]) ps kvs ∧ kvs.map (·.1) = kps.map (fun z => Sum.inl z.1) ∧ DpAll K G (kvs.map (·.2)) (kps.map (·.2))
  | [], _, h => by
    cases h
    exact ⟨[], [], rfl, .nil, rfl, .nil⟩
  | (n, x) :: kps, _, h => by
    cases h with
    | cons h1 h2 =>
      obtain ⟨ps, kvs, e1, e2, e3, e4⟩ := prs_of h2
      cases h1 with
      | tup s r =>
        cases r with
        | cons r1 r2 =>
          cases r1
          cases r2 with
          | cons r3 r4 =>
            cases r4
            rename_i p v
            refine ⟨p :: ps, (.inl n, v) :: kvs, by rw [e1]; rfl, .cons (s) e2, by rw [List.map_cons, List.map_cons, e3], .cons r3 e4⟩
theorem mergeK_app : ∀ {more kvs : List (Key × V)}, (more.map (·.1)).Nodup → (∀ k ∈ more.map (·.1), k ∉ kvs.map (·.1)) → mergeK kvs more = kvs ++ more
  | [], _, _, _ => by simp [mergeK]
  | (k, v) :: more, kvs, nd, h => by
    rw [List.map_cons, List.nodup_cons] at nd
    have e : putK kvs k v = kvs ++ [(k, v)] := by
      unfold putK
      rw [if_neg]
      rw [List.any_eq_true]
      rintro ⟨z, hz, e⟩
      exact h k List.mem_cons_self (List.mem_map.mpr ⟨z, hz, of_decide_eq_true e⟩)
    show mergeK (putK kvs k v) more = _
    rw [e, mergeK_app nd.2, List.append_assoc]
    · rfl
    · intro k' hk' hm
      rw [List.map_append, List.mem_append] at hm
      rcases hm with hm | hm
      · exact h k' (List.mem_cons_of_mem _ hk') hm
      · simp only [List.map_cons, List.map_nil, List.mem_singleton] at hm
        subst hm
        exact nd.1 hk'
theorem e_dictU {kps : List (Int × PyData)} (hr : A K tr ρ I [.u (kps.map prV)] J) (nd : (kps.map (·.1)).Nodup) : E K (tCB (rDictU K) tr) ρ I (.k (kps.map prK)) J :=
  e_cb hr fun G H vs gh jo h Q q => by
    obtain ⟨v, rfl, a, o, vs, rfl, h2, h3, h4⟩ := dva1 h
    obtain ⟨ps, kvs, rfl, e2, e3, e4⟩ := prs_of h4
    have nd2 : (kvs.map (·.1)).Nodup := by
      rw [e3, show (fun z : Int × PyData => (Sum.inl z.1 : Key)) = (fun n => (Sum.inl n : Key)) ∘ (fun z => z.1) from rfl, ← List.map_map]
      exact List.Pairwise.map _ (fun _ _ hne z => hne (by injection z)) nd
    have em : mergeK [] kvs = kvs := by
      rw [mergeK_app nd2 (fun _ _ z => by simp at z)]
      rfl
    refine ⟨a, o, ps, kvs, rfl, gh _ _ h2, h3, ?_, fun p hp => ?_⟩
    · have : ∀ {ps : List Addr} {kvs : List (Key × V)}, Paired (fun p kv => SqT K G p [kV kv.1, kv.2]) ps kvs → Paired (fun p kv => SqT K H p [kV kv.1, kv.2]) ps kvs := by
        intro ps kvs h
        induction h with
        | nil => exact .nil
        | cons a _ ih => exact .cons (same_t gh a) ih
      exact this e2
    · rw [em]
      have st := Stp.new (o := .dK kvs) gh hp
      refine q _ _ _ st.gg st.gh (Asn.pure_st st jo) ⟨p, kvs, rfl, upd_same, ?_, ?_⟩
      · rw [e3, List.map_map]
        rfl
      · rw [List.map_map]
        exact dp_monos st.gg _ _ e4
theorem lex3_anti {x y : SrtD.K3} (h1 : SrtD.lex3 x y = false) (h2 : SrtD.lex3 y x = false) : x = y := by
  unfold SrtD.lex3 at h1 h2
  rw [decide_eq_false_iff_not] at h1 h2
  obtain ⟨a, b, c⟩ := x
  obtain ⟨a', b', c'⟩ := y
  dsimp only at h1 h2
  have e1 : a = a' := by omega
  have e2 : b = b' := by omega
  have e3 : c = c' := by omega
  rw [e1, e2, e3]
theorem e_sort3 {ds es : List PyData} (hr : A K tr ρ I [.d (.list ds)] J) (rows : ∀ d ∈ ds, SrtD.Row3 d) (nd : (ds.map SrtD.key3).Nodup) (pm : es.Perm ds) (up : es.Pairwise fun x y => SrtD.lex3 (SrtD.key3 y) (SrtD.key3 x) = false) : E K (tCB (rSort3 K) tr) ρ I (.l es) J :=
  e_cb hr fun G H vs gh jo h Q q => by
    obtain ⟨v, rfl, h1⟩ := dva1 h
    cases h1 with
    | lst s r =>
      refine ⟨_, _, ds, rfl, gh.seq s, dp_monos gh _ _ r, rows, nd, fun ys es' p hy hp hu hn => ?_⟩
      have e : es' = es := List.Perm.eq_of_pairwise (fun a b ha hb h1 h2 => L2.inj_of nd a (hp.mem_iff.mp ha) b (pm.mem_iff.mp hb) (lex3_anti h2 h1)) hu up (hp.trans pm.symm)
      subst e
      have st := Stp.new (o := .lst ys) gh hn
      exact q _ _ _ st.gg st.gh (Asn.pure_st st jo) ⟨p, ys, rfl, upd_same, dp_monos st.gg _ _ (hy G r)⟩
end
end PL

/-! comprehensions of two clauses, and of one with a test, over any walk -/
namespace PL
open PySem PySem.Spec PyProof.Rows L2
variable [Nm]
section
variable {K : PySem.W.Frag} {ρ : Rho} {I J L : Asn} {te : TE} {tr : TA}
/-- the kept items of a row, up to j -/
def rowK (b : Nat → Bool) (e : Nat → PyData) (j : Nat) : List PyData := ((List.range j).filter b).map e
theorem rowK_0 {b : Nat → Bool} {e : Nat → PyData} : rowK b e 0 = [] := rfl
theorem rowK_s {b : Nat → Bool} {e : Nat → PyData} {j : Nat} : rowK b e (j + 1) = rowK b e j ++ (if b j = true then [e j] else []) := by
  unfold rowK
  rw [List.range_succ, List.filter_append, List.map_append]
  congr 1
  by_cases h : b j = true
  · rw [if_pos h, List.filter_cons_of_pos h]
    rfl
  · rw [if_neg h, List.filter_cons_of_neg h]
    rfl
theorem rowK_len {b : Nat → Bool} {e : Nat → PyData} (j : Nat) : (rowK b e j).length ≤ j := by
  unfold rowK
  rw [List.length_map]
  exact Nat.le_trans (List.length_filter_le _ _) (by rw [List.length_range]; exact Nat.le_refl _)
def rowsK (m : Nat → Nat) (b : Nat → Nat → Bool) (e : Nat → Nat → PyData) (i : Nat) : List PyData := ((List.range i).map fun i => rowK (b i) (e i) (m i)).flatten
theorem rowsK_s {m : Nat → Nat} {b : Nat → Nat → Bool} {e : Nat → Nat → PyData} {i : Nat} : rowsK m b e (i + 1) = rowsK m b e i ++ rowK (b i) (e i) (m i) := by
  unfold rowsK
  rw [List.range_succ, List.map_append, List.flatten_append]
  simp
theorem rowsK_len {m : Nat → Nat} {b : Nat → Nat → Bool} {e : Nat → Nat → PyData} {n : Nat} (hm : ∀ i, i < n → m i ≤ 1000) : ∀ i, i ≤ n → (rowsK m b e i).length ≤ i * 1000
  | 0, _ => Nat.le_refl _
  | i + 1, h => by
    rw [rowsK_s, List.length_append]
    have h1 := rowsK_len (b := b) (e := e) hm i (by omega)
    have h2 := rowK_len (b := b i) (e := e i) (m i)
    have h3 := hm i h
    omega
theorem e_lc2W {wi wi1 : TI} {g g1 : TG} {tt1 : TT} {vs vs1 : List Nat} {n : Nat} {xs : Nat → PyData} {m : Nat → Nat} {ys : Nat → Nat → PyData} {b : Nat → Nat → Bool} {e : Nat → Nat → PyData} (hl : IW K wi ρ I n xs I) (hn : n ≤ 1000) (hm : ∀ i, i < n → m i ≤ 1000)
    (he : ∀ i, i < n → ∃ ρ1, GW K g vs (xs i) (wipeR ρ vs) ρ1 ∧ (∀ I', IW K wi1 ρ1 I' (m i) (ys i) I') ∧ ∀ j, j < m i → ∃ ρ2, GW K g1 vs1 (ys i j) (wipeR ρ1 vs1) ρ2 ∧ (∀ I', T K tt1 ρ2 I' (b i j) I') ∧ (b i j = true → ∀ I', E K te ρ2 I' (.d (e i j)) I')) :
    E K (tLc2 wi g tYes wi1 g1 tt1 te vs vs1) ρ I (.d (.list (rowsK m b e n))) I := fun G H σ gh en io Q q =>
  hl G H σ gh en io _ fun Ji G1 H1 g1' gh1 j1 wk D hD => by
    have gD : G1 D = none := gh1.free hD
    have nD : ∀ a, I.foot a → ¬ a = D := fun a fa z => by
      obtain ⟨o, ho⟩ := I.own G1 H1 a j1 fa
      rw [z, hD] at ho
      cases ho
    have st0 := Stp.newM (o := HO.lst []) gh1 hD
    have big : ∀ {i j : Nat} (hi : i < n), j ≤ m i → (rowsK m b e i ++ rowK (b i) (e i) j).length < sizeLine := fun {i j} hi hj => by
      rw [List.length_append]
      have h1 := rowsK_len (b := b) (e := e) hm i (by omega)
      have h2 := rowK_len (b := b i) (e := e i) j
      have h3 := hm i hi
      have : i * 1000 ≤ 1000 * 1000 := Nat.mul_le_mul_right _ (by omega)
      rw [sizeLine_eq]
      omega
    refine ⟨fun i k H' => k = n - i ∧ i ≤ n ∧ ∃ G', Same G1 G' ∧ Same G' H' ∧ I.ok G' H' ∧ (lA K D (rowsK m b e i)).ok G' H' ∧ Stp (· = D) G1 (upd H1 D (.lst [])) G' H', ⟨n, rfl, Nat.zero_le _, G1, Same.refl _, st0.gh, Asn.pure_st st0 j1, ⟨gD, [], upd_same, .nil⟩, Stp.refl st0.gh⟩, fun i k H' hw => ?_⟩
    obtain ⟨rfl, hi, G', a1, a2, a3, a4, a5⟩ := hw
    by_cases c : i < n
    · obtain ⟨ρ1, hg, hi1, hin⟩ := he i c
      refine .inr ⟨wk.go i G' H' c a1 a2, fun H2 => ∃ G2, Same G1 G2 ∧ Same G2 H2 ∧ I.ok G2 H2 ∧ (lA K D (rowsK m b e (i + 1))).ok G2 H2 ∧ Stp (· = D) G1 (upd H1 D (.lst [])) G2 H2, fun H2 z => ⟨n - (i + 1), by omega, rfl, c, z⟩, fun v H2 y => ?_⟩
      obtain ⟨G2, st, dp⟩ := wk.yld i G' H' v H2 c a1 a2 y
      refine hg G2 H2 _ v _ st.gh (env_wipe (env_mono ((g1'.trans a1).trans st.gg) en) vs) dp fun σ' en' hw => ⟨hw.trans (wipe_wipe σ vs), ?_⟩
      -- the inner loop
      have b4 := Asn.pure_st st a4
      have b3 := Asn.pure_st st a3
      have b5 := a5.trans (st.wide fun _ z => z.elim)
      have bb : Same G1 G2 := a1.trans st.gg
      refine hi1 (((lA K D (rowsK m b e i)).and I).and (Asn.since (· = D) G1 (upd H1 D (.lst [])))) G2 H2 σ' st.gh en' ⟨⟨b4, b3⟩, b5⟩ _ fun J1 G4 H4 g4 gh4 j4 wk1 => ?_
      obtain ⟨⟨l4, i4⟩, s4⟩ := j4
      refine ⟨fun j k H' => k = m i - j ∧ j ≤ m i ∧ ∃ G', Same G4 G' ∧ Same G' H' ∧ I.ok G' H' ∧ (lA K D (rowsK m b e i ++ rowK (b i) (e i) j)).ok G' H' ∧ Stp (· = D) G1 (upd H1 D (.lst [])) G' H', ⟨m i, rfl, Nat.zero_le _, G4, Same.refl _, gh4, i4, by rw [rowK_0, List.append_nil]; exact l4, s4⟩, fun j k H' hw2 => ?_⟩
      obtain ⟨rfl, hj, G5, c1, c2, c3, c4, c5⟩ := hw2
      by_cases d : j < m i
      · obtain ⟨ρ2, hg2, ht, hel⟩ := hin j d
        refine .inr ⟨wk1.go j G5 H' d c1 c2, fun H2 => ∃ G2, Same G4 G2 ∧ Same G2 H2 ∧ I.ok G2 H2 ∧ (lA K D (rowsK m b e i ++ rowK (b i) (e i) (j + 1))).ok G2 H2 ∧ Stp (· = D) G1 (upd H1 D (.lst [])) G2 H2, fun H2 z => ⟨m i - (j + 1), by omega, rfl, d, z⟩, fun v2 H6 y2 => ?_⟩
        obtain ⟨G6, st6, dp6⟩ := wk1.yld j G5 H' v2 H6 d c1 c2 y2
        refine hg2 G6 H6 _ v2 _ st6.gh (env_wipe (env_mono ((g4.trans c1).trans st6.gg) en') vs1) dp6 fun σ3 en3 hw3 => ⟨hw3.trans (wipe_wipe σ' vs1), ?_⟩
        refine ht (((lA K D (rowsK m b e i ++ rowK (b i) (e i) j)).and I).and (Asn.since (· = D) G1 (upd H1 D (.lst [])))) G6 H6 σ3 st6.gh en3 ⟨⟨Asn.pure_st st6 c4, Asn.pure_st st6 c3⟩, c5.trans (st6.wide fun _ z => z.elim)⟩ _ fun G7 H7 g7 gh7 j7 => ?_
        by_cases hb : b i j = true
        · rw [if_pos hb]
          refine hel hb (((lA K D (rowsK m b e i ++ rowK (b i) (e i) j)).and I).and (Asn.since (· = D) G1 (upd H1 D (.lst [])))) G7 H7 σ3 gh7 (env_mono g7 en3) j7 _ fun z G3 H3 g3 gh3 j3 dy => ?_
          obtain ⟨⟨⟨gq, ws, hq, r2⟩, i3⟩, st3⟩ := j3
          have st4 := Stp.store (o := HO.lst (ws ++ [z])) gh3 gq hq
          refine ⟨ws, hq, by rw [dpa_len r2]; exact big c (by omega), G3, (((c1.trans st6.gg).trans g7).trans g3), st4.gh, I.st _ _ _ _ _ nD st4 i3, ⟨gq, _, upd_same, ?_⟩, st3.trans st4⟩
          rw [rowK_s, if_pos hb, ← List.append_assoc]
          exact dpa_app r2 (.cons dy .nil)
        · rw [if_neg hb]
          obtain ⟨⟨l7, i7⟩, s7⟩ := j7
          refine ⟨G7, (c1.trans st6.gg).trans g7, gh7, i7, ?_, s7⟩
          rw [rowK_s, if_neg hb, List.append_nil]
          exact l7
      · have ej : j = m i := by omega
        subst ej
        refine .inl ⟨wk1.stop G5 H' c1 c2, G5, (bb.trans g4).trans c1, c2, c3, ?_, c5⟩
        rw [rowsK_s]
        exact c4
    · have ei : i = n := by omega
      subst ei
      obtain ⟨gq, ws, hq, r2⟩ := a4
      have st : Stp (· = D) G' H' (upd G' D (.lst ws)) H' := Stp.frz a2 gq hq
      exact .inl ⟨wk.stop G' H' a1 a2, q _ (upd G' D (.lst ws)) H' ((g1'.trans a1).trans st.gg) st.gh (I.st _ _ _ _ _ nD st a3) (.lst (.inl (.inl upd_same)) (dp_monos st.gg _ ws r2))⟩
end
end PL

/-! a dict of one's own: reading it, and storing its last key again -/
namespace PL
open PySem PySem.Spec PyProof.Rows L2
variable [Nm]
section
variable {K : PySem.W.Frag} {ρ : Rho} {I J L N : Asn} {ta tb te : TE} {tr : TA} {x y : PyData}
theorem e_kGetM {q : Addr} {kvs : List (Key × PyData)} {n : Int} (ha : E K ta ρ I (.r q) J) (hb : E K tb ρ J (.i n) N) (hN : ∀ G H, N.ok G H → (kA K q kvs).ok G H) (h : valD kvs (.inl n) = some x) : E K (tDGet ta tb) ρ I (.d x) N := fun G H σ gh en io Q k => ha G H σ gh en io _ fun v G1 H1 g1 gh1 j1 dv => hb G1 H1 σ gh1 (env_mono g1 en) j1 _ fun w G2 H2 g2 gh2 j2 dw => by
  obtain rfl : v = .ref q := dv
  obtain rfl := dv_int dw
  obtain ⟨gq, vs, hq, r⟩ := hN G2 H2 j2
  obtain ⟨u, hu, dp⟩ := (kv_get (ky := .inl n) r).2 x h
  exact ⟨q, u, rfl, .inl ⟨vs, .inl n, .of hq, rfl, hu.symm⟩, k u G2 H2 (g1.trans g2) gh2 j2 dp⟩
theorem valD_last {n : Int} : ∀ {kvs : List (Key × PyData)}, (.inl n : Key) ∉ kvs.map (·.1) → valD (kvs ++ [(.inl n, y)]) (.inl n) = some y
  | [], _ => by simp [valD]
  | (k, z) :: kvs, h => by
    rw [List.map_cons, List.mem_cons, not_or] at h
    have ih := valD_last h.2
    unfold valD at ih ⊢
    rw [List.cons_append, List.find?_cons_of_neg (by simpa using fun z => h.1 z.symm)]
    exact ih
theorem kv_last {G : Hp} {ky : Key} {z : V} {zd : PyData} {vs : List (Key × V)} {kvs : List (Key × PyData)} (h : KvAll K G vs (kvs ++ [(ky, y)])) (hz : Dp K G z zd) (hn : ky ∉ kvs.map (·.1)) : KvAll K G (putK vs ky z) (kvs ++ [(ky, zd)]) := by
  have key : ∀ {vs : List (Key × V)} {kvs : List (Key × PyData)}, KvAll K G vs (kvs ++ [(ky, y)]) → ky ∉ kvs.map (·.1) → KvAll K G (vs.map fun kv => if kv.1 = ky then (kv.1, z) else kv) (kvs ++ [(ky, zd)]) := by
    intro vs
    induction vs with
    | nil =>
      intro kvs h _
      have := congrArg List.length h.1
      simp at this
    | cons v vs ih =>
      intro kvs h hn
      cases kvs with
      | nil =>
        obtain ⟨h1, h2⟩ := h
        have e : v.1 = ky ∧ vs = [] := by simpa using h1
        obtain ⟨e1, rfl⟩ := e
        rw [List.map_cons, if_pos e1]
        exact ⟨by simp [e1], .cons hz .nil⟩
      | cons kv kvs =>
        obtain ⟨h1, h2⟩ := h
        rw [List.map_cons, List.mem_cons, not_or] at hn
        have e : v.1 = kv.1 ∧ vs.map (·.1) = (kvs ++ [(ky, y)]).map (·.1) := by simpa using h1
        obtain ⟨e1, e2⟩ := e
        have hne : ¬ v.1 = ky := fun w => hn.1 (by rw [← e1, w])
        cases h2 with
        | cons r rr =>
          obtain ⟨i1, i2⟩ := ih ⟨e2, rr⟩ hn.2
          rw [List.map_cons, if_neg hne]
          exact ⟨by rw [List.map_cons, i1, List.cons_append, List.map_cons, e1], .cons r i2⟩
  unfold putK
  split
  · exact key h hn
  · rename_i c
    refine absurd ?_ c
    rw [List.any_eq_true]
    have : ky ∈ vs.map (·.1) := by rw [h.1]; simp
    obtain ⟨kv, hm, e⟩ := List.mem_map.mp this
    exact ⟨kv, hm, decide_eq_true e⟩
/-- x[n] = e, n being the key that was stored last -/
theorem s_putKL {i : Nat} {q : Addr} {n : Int} {kvs : List (Key × PyData)} (he : E K te ρ (kJ K q (kvs ++ [(.inl n, y)]) J) (.d x) (kJ K q (kvs ++ [(.inl n, y)]) J)) (hi : ρ[i]? = some (some (.r q))) (hb : E K tb ρ (kJ K q (kvs ++ [(.inl n, y)]) J) (.i n) (kJ K q (kvs ++ [(.inl n, y)]) J)) (hn : (.inl n : Key) ∉ kvs.map (·.1)) (hl : kvs.length < 100000) (hf : ¬ J.foot q) :
    S K (sDPut (tVar i) tb te) ρ (kJ K q (kvs ++ [(.inl n, y)]) J) (.nx ρ (kJ K q (kvs ++ [(.inl n, x)]) J)) := fun G H σ D gh en io f => he G H σ gh en io _ fun v G1 H1 g1 gh1 j1 dv => by
  obtain ⟨o, ho, rfl⟩ := env_get en hi
  refine ⟨.ref q, ho, hb G1 H1 σ gh1 (env_mono g1 en) j1 _ fun w G2 H2 g2 gh2 j2 dw => ?_⟩
  obtain rfl := dv_int dw
  obtain ⟨⟨gq, vs, hq, r⟩, jo⟩ := j2
  have hlen := kv_len r
  rw [List.length_append, List.length_singleton] at hlen
  refine ⟨q, _, rfl, DPut.k (k := .inl n) hq (Nat.lt_of_lt_of_le (by omega : vs.length < 100001) (by rw [sizeLine_eq]; decide)), ?_⟩
  have st := Stp.store (o := HO.dK (putK vs (.inl n) v)) gh2 gq hq
  exact f G2 _ σ (g1.trans g2) st.gh (env_mono (g1.trans g2) en) ⟨⟨gq, _, upd_same, kv_last r (dp_mono g2 _ _ dv) hn⟩, J.st _ _ _ _ _ (fun a fa (z : a = q) => hf (z ▸ fa)) st jo⟩
theorem dpa_intsV {G : Hp} : ∀ (ns : List Int) (vs : List V), DpAll K G vs (ns.map PyData.int) → vs = ns.map V.int
  | [], _, h => by cases h; rfl
  | n :: ns, _, h => by
    cases h with
    | cons a b =>
      cases a
      rw [dpa_intsV ns _ b]
      rfl
theorem iw_r2 {lo hi : Int} {tl : TA} (h : A K tl ρ I [.i lo, .i hi] J) (h1 : -1000000 ≤ lo ∧ lo ≤ 1000000) (h2 : -1000000 ≤ hi ∧ hi ≤ 1000000) : IW K (iRng2 tl) ρ I (hi - lo).toNat (fun k => .int (lo + (k : Nat))) J := fun G H σ gh en io R r => h G H σ gh en io _ fun vs G1 H1 g1 gh1 j1 dvs => by
  obtain ⟨v, w, rfl, d1, d2⟩ := dva2 dvs
  obtain rfl := dv_int d1
  obtain rfl := dv_int d2
  exact ⟨lo, hi, rfl, ⟨by omega, by omega, by omega, by omega⟩, r _ G1 H1 g1 gh1 j1 walk_r⟩
theorem e_ltT {ns ms : List Int} (ha : E K ta ρ I (.t (ns.map PyData.int)) J) (hb : E K tb ρ J (.t (ms.map PyData.int)) L) : E K (tOp (rLtT K) ta tb) ρ I (.b (HT.lexLt ns ms)) L :=
  e_op ha hb fun G H v w gh lo dx dy Q k => by
    cases dx with
    | tup s r =>
      cases dy with
      | tup s2 r2 =>
        obtain rfl := dpa_intsV ns _ r
        obtain rfl := dpa_intsV ms _ r2
        exact ⟨_, _, ns, ms, rfl, rfl, same_t gh s, same_t gh s2, k _ G H (Same.refl _) gh lo (.bl _)⟩
end
end PL

/-! sorted of any rows that a key tells apart; sorted(d.items()) -/
namespace SrtG
open PySem PySem.Spec PyProof.Rows SrtO Srt SrtD
/-- a kind of rows: tuples that begin with a whole number, and how two of them are told apart -/
structure RowK where
  κ : Type
  key : PyData → κ
  lt : κ → κ → Bool
  swo : Swo lt
  row : PyData → Prop
  head : ∀ d, row d → ∃ (a : Int) (r : List PyData), d = .tuple (.int a :: r) ∧ ∀ x ∈ r, SeqAt.shaped x = true
  cmp : ∀ r r', row (.tuple r) → row (.tuple r') → (key (.tuple r) = key (.tuple r') → r = r') → lexL r r' = some (lt (key (.tuple r)) (key (.tuple r')))
def IsRow (R : RowK) (h : Heap) (v : Value) (d : PyData) : Prop := R.row d ∧ ∃ as, Reads h v d as
theorem IsRow.keeps {R : RowK} {h h' : Heap} {v : Value} {d : PyData} (p : IsRow R h v d) (hk : ∀ b o, h.get? b = some o → h'.get? b = some o) : IsRow R h' v d := ⟨p.1, p.2.imp fun _ r => PyProof.Rows.Reads.keeps hk r⟩
abbrev ltR (R : RowK) (f : Value → PyData) (v u : Value) : Bool := R.lt (R.key (f v)) (R.key (f u))
theorem lt_map {κ α : Type} {lt : κ → κ → Bool} (O : Swo lt) (k : α → κ) : Swo fun x y => lt (k x) (k y) := ⟨fun x y h => O.asym _ _ h, fun x y z h1 h2 => O.tr _ _ _ h1 h2⟩
theorem all_sh {a : Int} {r : List PyData} (h : ∀ x ∈ r, SeqAt.shaped x = true) : ∀ x ∈ (.int a :: r : List PyData), SeqAt.shaped x = true := fun x hx => by
  rcases List.mem_cons.mp hx with rfl | hx
  · rfl
  · exact h x hx
section
variable {prog : Program} {w : World} {A : Around} {s : Shared} {R : RowK}
theorem row_cmp {vs : List Value} {f : Value → PyData} (hu : A.units + 64 < cLine) (hp : ∀ v ∈ vs, IsRow R s.heap v (f v)) (uq : ∀ v ∈ vs, ∀ u ∈ vs, R.key (f v) = R.key (f u) → f v = f u) : Cmp prog w A s (tuples' true) (fun p => p.1 ∈ vs) (lt2 (ltR R f)) := by
  intro p q hm hm'
  show wpAny (model prog w) A (keyLt' (tuples' true) p.1 q.1) (fun r s' => s' = s ∧ r = R.lt (R.key (f p.1)) (R.key (f q.1))) (fun _ _ => False) s
  have hq := uq _ hm _ hm'
  obtain ⟨w1, as, r1⟩ := hp _ hm
  obtain ⟨w2, bs, r2⟩ := hp _ hm'
  generalize p.1 = v at *
  generalize q.1 = u at *
  obtain ⟨a, r, e1, s1⟩ := R.head _ w1
  obtain ⟨a', r', e2, s2⟩ := R.head _ w2
  rw [e1] at w1
  rw [e2] at w2
  rw [e1, e2] at hq ⊢
  rw [e1] at r1
  rw [e2] at r2
  have hl := R.cmp _ _ w1 w2 fun z => by
    have z2 := hq z
    injection z2 with z2
  cases r1 with
  | tuple h1 h2 h3 h4 =>
    cases r2 with
    | tuple g1 g2 g3 g4 =>
      refine PySem.W.kat_lt h1 h3 g1 g3 ?_
      exact kat_data hu 0 h4 g4 (all_sh s1) (all_sh s2) (by simp) hl ⟨rfl, rfl⟩
theorem row_firsts {h : Heap} {f : Value → PyData} : ∀ {vs : List Value}, (∀ v ∈ vs, IsRow R h v (f v)) → ∃ fs : List Value, PySem.W.KatTups h vs fs ∧ fs.length = vs.length ∧ ∀ u ∈ fs, ∃ x t, u = Value.int x t
  | [], _ => ⟨[], PySem.W.KatTups.nil, rfl, fun _ hm => by simp at hm⟩
  | v :: vs, hp => by
    obtain ⟨fs, h1, h2, h3⟩ := row_firsts (vs := vs) fun v' hm => hp v' (List.mem_cons_of_mem _ hm)
    obtain ⟨w1, as, rr⟩ := hp v List.mem_cons_self
    obtain ⟨a, r, e, _⟩ := R.head _ w1
    rw [e] at rr
    cases rr with
    | tuple ho hc hd h4 =>
      generalize hL : Array.toList _ = L at h4
      cases h4 with
      | cons r1 _ =>
        cases r1 with
        | int _ t =>
          refine ⟨.int a t :: fs, PySem.W.KatTups.cons ho hc hd (by rw [← Array.getElem?_toList, hL]; rfl) h1, by rw [List.length_cons, List.length_cons, h2], fun u hm => ?_⟩
          rcases List.mem_cons.mp hm with rfl | hm
          · exact ⟨a, t, rfl⟩
          · exact h3 u hm
theorem rows_sortable {a : Addr} {vs : List Value} {f : Value → PyData} {h0 : Heap} (hu : A.units + 64 < cLine) (hn : 0 < vs.length) (hp : ∀ v ∈ vs, IsRow R h0 v (f v)) (uq : ∀ v ∈ vs, ∀ u ∈ vs, R.key (f v) = R.key (f u) → f v = f u) (ha : ∀ b o, h0.get? b = some o → b ≠ a ∧ s.heap.get? b = some o) : SortableO prog w A s a vs (ltR R f) := by
  intro h' keep
  have hp' : ∀ v ∈ vs, IsRow R h' v (f v) := fun v hm => (hp v hm).keeps fun b o e => keep b o (ha b o e).1 (ha b o e).2
  obtain ⟨fs, h1, h2, h3⟩ := row_firsts hp'
  refine ⟨tuples' true, fun Q E hq => ?_, row_cmp hu hp' uq⟩
  refine PySem.W.kat_kind (T := .type "int") h1 (by omega) (fun u hm => ?_) (by rfl) ?_
  · obtain ⟨x, t, rfl⟩ := h3 u hm
    exact PySem.W.Looks.now
  · have e : (Value.type "int" != Value.type "tuple") = true := by first | decide +kernel | rfl | decide
    rw [e]
    exact hq
theorem sorted_rows {l : Addr} {vs : List Value} {f : Value → PyData} {Q : Value → Shared → Prop} {E : Value → Shared → Prop} (hu : A.in1.in1.units + 64 < cLine) (hl : s.heap.IsList l vs.toArray) (hz : vs.length ≤ sizeLine) (hp : ∀ v ∈ vs, IsRow R s.heap v (f v)) (uq : ∀ v ∈ vs, ∀ u ∈ vs, R.key (f v) = R.key (f u) → f v = f u)
    (h : ∀ (h' : Heap) (d : Addr) (out : List Value), Srtd (ltR R f) out → Stb (ltR R f) out vs → (∀ b o, s.heap.get? b = some o → h'.get? b = some o) → s.heap.objs.size ≤ d → (∃ n, h'.get? d = some (seqObj "list" out.toArray n)) → Q (.ref d) { s with heap := h' }) :
    wpAny (model prog w) A (call (.builtin "sorted") [.ref l]) Q E s := by
  refine sorted_ord (lt_map R.swo fun v => R.key (f v)) hl hz (fun h2 h₁ a ha kk => ?_) fun out hs hb => ?_
  · exact rows_sortable (s := { s with heap := h₁ }) (h0 := s.heap) hu (by omega) hp uq kk
  · exact h _ _ out hs hb (fun b o e => sortedAll_old e) (Nat.le_succ _) (sortedAll_at s.heap vs out.toArray)
end
/-! rows told by one whole number, by two -/
def key1 : PyData → Int
  | .tuple (.int a :: _) => a
  | _ => 0
def Row1 (d : PyData) : Prop := ∃ (a : Int) (r : List PyData), d = .tuple (.int a :: r) ∧ ∀ x ∈ r, SeqAt.shaped x = true
theorem lt_swo : Swo fun (x y : Int) => decide (x < y) := ⟨fun x y h => by rw [decide_eq_true_iff] at h; rw [decide_eq_false_iff_not]; omega, fun x y z h1 h2 => by rw [decide_eq_false_iff_not] at h1 h2 ⊢; omega⟩
def R1 : RowK where
  κ := Int
  key := key1
  lt := fun x y => decide (x < y)
  swo := lt_swo
  row := Row1
  head := fun d h => h
  cmp := fun r r' h h' hk => by
    obtain ⟨a, t, e, s1⟩ := h
    obtain ⟨a', t', e', s2⟩ := h'
    injection e with e
    injection e' with e'
    subst e e'
    show lexL (.int a :: t) (.int a' :: t') = some (decide (a < a'))
    rw [lexL]
    simp only [eqv_ints]
    by_cases c : a = a'
    · rw [if_pos c]
      have hk2 : (.int a :: t : List PyData) = .int a' :: t' := hk (show a = a' from c)
      have e2 : t = t' := (List.cons.inj hk2).2
      rw [← e2, lexL_self t s1, c]
      congr 1
      symm
      rw [decide_eq_false_iff_not]
      omega
    · rw [if_neg c]
abbrev K2 := Int × Int
def lex2 (p q : K2) : Bool := decide (p.1 < q.1 ∨ (p.1 = q.1 ∧ p.2 < q.2))
theorem lex2_swo : Swo lex2 := ⟨fun x y h => by
  unfold lex2 at h ⊢
  rw [decide_eq_true_iff] at h
  rw [decide_eq_false_iff_not]
  omega, fun x y z h1 h2 => by
  unfold lex2 at h1 h2 ⊢
  rw [decide_eq_false_iff_not] at h1 h2 ⊢
  omega⟩
def key2 : PyData → K2
  | .tuple (.int a :: .int b :: _) => (a, b)
  | _ => (0, 0)
def Row2 (d : PyData) : Prop := ∃ (a b : Int) (r : List PyData), d = .tuple (.int a :: .int b :: r) ∧ ∀ x ∈ r, SeqAt.shaped x = true
def R2 : RowK where
  κ := K2
  key := key2
  lt := lex2
  swo := lex2_swo
  row := Row2
  head := fun d h => by
    obtain ⟨a, b, r, e, s1⟩ := h
    exact ⟨a, .int b :: r, e, all_sh s1⟩
  cmp := fun r r' h h' hk => by
    obtain ⟨a, b, t, e, s1⟩ := h
    obtain ⟨a', b', t', e', s2⟩ := h'
    injection e with e
    injection e' with e'
    subst e e'
    show lexL (.int a :: .int b :: t) (.int a' :: .int b' :: t') = some (lex2 (a, b) (a', b'))
    unfold lex2
    rw [lexL, lexL]
    simp only [eqv_ints]
    by_cases c : a = a'
    · rw [if_pos c]
      by_cases c2 : b = b'
      · rw [if_pos c2]
        have hk2 : (.int a :: .int b :: t : List PyData) = .int a' :: .int b' :: t' := hk (show (a, b) = (a', b') by rw [c, c2])
        have e2 : t = t' := (List.cons.inj (List.cons.inj hk2).2).2
        rw [← e2, lexL_self t s1, c, c2]
        congr 1
        symm
        rw [decide_eq_false_iff_not]
        try dsimp only
        omega
      · rw [if_neg c2]
        congr 1
        rw [decide_eq_decide]
        try dsimp only
        omega
    · rw [if_neg c]
      congr 1
      rw [decide_eq_decide]
      try dsimp only
      omega
end SrtG
namespace L2
open PySem PySem.Spec PyProof.Rows SrtG
section
variable {X : Cx}
theorem rowRefs {K : PySem.W.Frag} {H : Hp} {R : RowK} : ∀ {xs : List V} {ds : List PyData}, DpAll K H xs ds → (∀ d ∈ ds, R.row d) → ∀ x ∈ xs, ∃ t, x = V.ref t
  | [], _, _, _ => fun x hx => absurd hx (by simp)
  | y :: ys, _, .cons p1 p2, h2 => fun x hx => by
    rcases List.mem_cons.mp hx with rfl | hx
    · obtain ⟨a, r, e, _⟩ := R.head _ (h2 _ List.mem_cons_self)
      rw [e] at p1
      cases p1
      exact ⟨_, rfl⟩
    · exact rowRefs p2 (fun d hd => h2 d (List.mem_cons_of_mem _ hd)) x hx
theorem lay_of {R : RowK} {d : PyData} (h : R.row d) : d.canLay0 = true := by
  obtain ⟨a, r, rfl, hr⟩ := R.head _ h
  show PyData.canLayAll0 _ = true
  refine canAll fun x hx => ?_
  rcases List.mem_cons.mp hx with rfl | hx
  · rfl
  · exact SeqAt.canLay_of_shaped (hr x hx)
theorem rows_at {R : RowK} {hp : Heap} : ∀ {its : List Value} {ds : List PyData} {as : List Addr}, ReadsAll hp its ds as → (∀ d ∈ ds, R.row d) → ∀ v ∈ its, IsRow R hp v (SeqAt.readOf hp v)
  | [], _, _, _, _ => fun v hv => absurd hv (by simp)
  | y :: ys, _, _, .cons p1 p2, h2 => fun x hx => by
    rcases List.mem_cons.mp hx with rfl | hx
    · rw [SeqAt.readOf_eq (lay_of (h2 _ List.mem_cons_self)) p1]
      exact ⟨h2 _ List.mem_cons_self, _, p1⟩
    · exact rows_at p2 (fun d hd => h2 d (List.mem_cons_of_mem _ hd)) x hx
def rSortG (R : RowK) (K : PySem.W.Frag) : List V → Hp → VK → Prop := fun vs H Q => ∃ (a : Addr) (xs : List V) (ds : List PyData), vs = [V.ref a] ∧ SqL K H a xs ∧ DpAll K H xs ds ∧ (∀ d ∈ ds, R.row d) ∧ (ds.map R.key).Nodup ∧
  ∀ ys es p, (∀ G', DpAll K G' xs ds → DpAll K G' ys es) → es.Perm ds → es.Pairwise (fun x y => R.lt (R.key y) (R.key x) = false) → H p = none → Q (.ref p) (upd H p (.lst ys))
theorem cr_sortG (R : RowK) (hu : X.A.in1.in1.units + 64 < cLine) : CallR X (.builtin "sorted") (rSortG R X.K) := by
  intro pins s σ H vs us Q I r h
  obtain ⟨a, xs, ds, rfl, hs, hd, hr, nd, q⟩ := h
  obtain ⟨its, rv, hl, hz⟩ := I.list hs
  obtain rfl := Vals.ref1 r
  obtain ⟨as, rr⟩ := Dp.readsAll I ds _ its hd rv
  have hc := canAll fun d m => lay_of (hr d m)
  have e0 : its.map (SeqAt.readOf s.heap) = ds := SeqAt.readsAll_map ds its as hc rr
  obtain ⟨e1, e2⟩ := refs_back rv (rowRefs hd hr)
  have hrow := rows_at rr hr
  have uq : ∀ v ∈ its, ∀ u ∈ its, R.key (SeqAt.readOf s.heap v) = R.key (SeqAt.readOf s.heap u) → SeqAt.readOf s.heap v = SeqAt.readOf s.heap u := fun v hv u hu z => by
    refine inj_of nd _ ?_ _ ?_ z
    · rw [← e0]; exact List.mem_map.mpr ⟨v, hv, rfl⟩
    · rw [← e0]; exact List.mem_map.mpr ⟨u, hu, rfl⟩
  refine sorted_rows (f := SeqAt.readOf s.heap) hu hl.isList (by rw [← rv.length]; exact hz) hrow uq fun h' d out h1 h2 kp hd2 hn => ?_
  have h3 : ∀ u ∈ out, ∃ a, u = Value.ref a := fun u hu => e2 u (h2.perm.mem_iff.mp hu)
  obtain ⟨n, hn⟩ := hn
  refine ⟨.ref d, upd H d (.lst (out.map backV)), I.laid (t' := s.toks) kp hd2 ⟨?_, out, n, vals_back h3, hn⟩, rfl, q _ (out.map (SeqAt.readOf s.heap)) d (fun G' hG => dpa_mk fun u hu => dpa_at (f := SeqAt.readOf s.heap) (by rw [← e1, e0]; exact hG) u (h2.perm.mem_iff.mp hu)) ?_ ?_ (I.hok.fresh hd2)⟩
  · rw [List.length_map, h2.perm.length_eq, ← rv.length]
    exact hz
  · rw [← e0]
    exact h2.perm.map _
  · exact List.pairwise_map.mpr h1
/-! ### d.items(), sorted(d.items()), d with whole numbers as keys -/
def rItemsK : V → List V → Hp → VK → Prop := fun x xs H Q => ∃ (a : Addr) (kvs : List (Key × V)), x = .ref a ∧ xs = [] ∧ H a = some (.dK kvs) ∧ ∀ p, H p = none → Q (.ref p) (upd H p (DX.itemsO p a))
theorem raw_of {kvs : List (Key × V)} {P : Program} {w : World} {H : Hp} {h : Heap} {a : Addr} (ok : HOk P w H h) (e : H a = some (.dK kvs)) : kvs.length ≤ sizeLine ∧ (a == sysModules) = false ∧ ∃ vs es ep, KV kvs vs ∧ DT.Raw h a es ep ∧ es.size = vs.length ∧ ∀ i (hi : i < es.size) k v, vs[i]? = some (k, v) → keyIs k es[i].key = true ∧ es[i].val = v := by
  obtain ⟨h1, h2, vs, h3, h4⟩ := dk_of ok e
  obtain ⟨es, ep, r, hs, hi⟩ := h4.raw
  exact ⟨h1, h2, vs, es, ep, h3, r, hs, hi⟩
theorem mt_itemsK : MtR X "dict.items" rItemsK := by
  intro pins s σ H x xs v us Q I rx rxs h
  obtain ⟨a, kvs, rfl, rfl, ha, q⟩ := h
  cases rx
  cases rxs
  obtain ⟨_, hd, vs, es, ep, _, raw, _, _⟩ := raw_of I.hok ha
  refine DT.callItems (es := es) (ep := ep) hd raw ?_
  have fresh : H s.heap.objs.size = none := I.hok.fresh (Nat.le_refl _)
  exact ⟨.ref s.heap.objs.size, upd H s.heap.objs.size (DX.itemsO s.heap.objs.size a), I.laid (t' := s.toks) (fun b u e => Heap.get?_push_of_some _ e) (Nat.le_refl _) (DX.itemsO_ok (Heap.get?_push_size _ rfl)), rfl, q _ fresh⟩
abbrev ikV (z : Int × V) : Key × V := (.inl z.1, z.2)
/-- the pairs of a dict, by key -/
def rSortIK (K : PySem.W.Frag) : List V → Hp → VK → Prop := fun vs H Q => ∃ (p a : Addr) (kvs : List (Int × V)) (ds : List PyData), vs = [.ref p] ∧ H p = some (DX.itemsO p a) ∧ H a = some (.dK (kvs.map ikV)) ∧ DpAll K H (kvs.map (·.2)) ds ∧ (∀ d ∈ ds, SeqAt.shaped d = true) ∧ (kvs.map (·.1)).Nodup ∧
  ∀ (H' : Hp) (l : Addr) (zs : List (Addr × Int × V)), (∀ b o, H b = some o → H' b = some o) → H l = none → H' l = some (.lst (zs.map fun z => V.ref z.1)) → (zs.map (·.2)).Perm kvs → (zs.map (·.2)).Pairwise (fun e f => e.1 ≤ f.1) →
    (∀ z ∈ zs, H z.1 = none ∧ H' z.1 = some (.tup [.int z.2.1, z.2.2])) → Q (.ref l) H'
theorem cr_sortIK (hc : X.calm = true) (hu : X.A.in1.in1.units + 64 < cLine) : CallR X (.builtin "sorted") (rSortIK X.K) := by
  intro pins s σ H vs0 us Q I r h
  obtain ⟨p, a, kvs, ds, rfl, hp, ha, hd, hsh, nd, q⟩ := h
  obtain rfl := Vals.ref1 r
  have view : s.heap.IsItemsView p a := (show ObjOk X.prog X.w H s.heap p (DX.itemsO p a) from I.hok p _ hp).1
  obtain ⟨hz, _, vs, es, ep, kv, raw, hs, hi⟩ := raw_of I.hok ha
  have l1 : (kvs.map ikV).length = vs.length := Paired.length kv
  rw [List.length_map] at hz l1
  have l3 : kvs.length = ds.length := by
    have := PL.dpa_len hd
    rw [List.length_map] at this
    exact this
  refine DT.sortedI (es := es) (ep := ep) (I.ok.hd hc) view raw (by omega) fun h' tk as hk hlt hl hG => ?_
  have lak : as.length = kvs.length := by omega
  have ndA : as.Nodup := List.Pairwise.imp (fun h => Nat.ne_of_lt h) hG.rise
  have pr : ∀ (j : Nat) (b : Addr), as[j]? = some b → ∃ (e : Int × V) (t : Tok) (u : Value) (d : PyData) (bs : List Addr), kvs[j]? = some e ∧ ds[j]? = some d ∧ RelV e.2 u ∧ Reads s.heap u d bs ∧ h'.get? b = some { cls := .type "tuple", data := .seq #[.int e.1 t, u] } := by
    intro j b hj
    obtain ⟨en, he, hg⟩ := hG.pairs j b hj
    obtain ⟨hj1, hj2⟩ := List.getElem?_eq_some_iff.mp hj
    have hje : j < es.size := by omega
    have hjv : j < vs.length := by omega
    have hjk : j < kvs.length := by omega
    obtain ⟨z1, z2⟩ := hi j hje (vs[j]).1 (vs[j]).2 (List.getElem?_eq_getElem hjv)
    have een : es[j] = en := by
      rw [Array.getElem?_eq_getElem hje] at he
      exact Option.some.inj he
    obtain ⟨e0, hb0, pe⟩ := DX.pget kv (List.getElem?_eq_getElem hjv)
    obtain ⟨pe1, pe2⟩ := pe
    rw [List.getElem?_map, List.getElem?_eq_getElem hjk] at hb0
    have ee : ikV kvs[j] = e0 := Option.some.inj hb0
    rw [← ee] at pe1 pe2
    rw [← pe1, een] at z1
    rw [een] at z2
    rcases keyIs_shape z1 with ⟨i, t, k1, k2⟩ | ⟨x, t, k1, k2⟩
    · have k3 : kvs[j].1 = i := by injection k1
      obtain ⟨x, hx1, hx2⟩ := PL.dpa_get (i := j) (d := ds[j]'(by omega)) hd (List.getElem?_eq_getElem (by omega))
      have hx3 : x = kvs[j].2 := by
        rw [List.getElem?_map, List.getElem?_eq_getElem hjk] at hx1
        exact (Option.some.inj hx1).symm
      rw [hx3] at hx2
      obtain ⟨bs, rd⟩ := Dp.reads I _ _ _ hx2 pe2
      refine ⟨kvs[j], t, (vs[j]).2, ds[j]'(by omega), bs, List.getElem?_eq_getElem hjk, List.getElem?_eq_getElem (by omega), pe2, rd, ?_⟩
      rw [hg, k2, z2, k3]
    · cases k1
  -- the list of pairs, and what it reads
  have hob : (h'.push { cls := .type "list", data := .seq (as.map Value.ref).toArray }).get? h'.objs.size = some (seqObj "list" (as.map Value.ref).toArray 0) := Heap.get?_push_size _ rfl
  have ne0 : ∀ b o, h'.get? b = some o → b ≠ h'.objs.size := fun b o e => Nat.ne_of_lt (Heap.lt_size e)
  generalize hh2 : h'.push { cls := .type "list", data := .seq (as.map Value.ref).toArray } = h2 at hob ⊢
  have ka : ∀ b o, h'.get? b = some o → h2.get? b = some o := fun b o e => by rw [← hh2]; exact Heap.get?_push_of_some _ e
  have row : ∀ (j : Nat) (b : Addr), as[j]? = some b → ∃ (e : Int × V) (d : PyData), kvs[j]? = some e ∧ IsRow R1 h' (.ref b) (.tuple [.int e.1, d]) ∧ SeqAt.readOf h' (.ref b) = .tuple [.int e.1, d] := by
    intro j b hj
    obtain ⟨e, t, u, d, bs, h1, h2', h3, h4, h5⟩ := pr j b hj
    have sd := hsh d (List.mem_of_getElem? h2')
    have hr1 : Row1 (.tuple [.int e.1, d]) := ⟨e.1, [d], rfl, fun x hx => by rw [List.mem_singleton.mp hx]; exact sd⟩
    have rd : Reads h' (.ref b) (.tuple [.int e.1, d]) _ := Reads.tuple h5 rfl rfl (ReadsAll.cons (Reads.int e.1 t) (ReadsAll.cons (PyProof.Rows.Reads.keeps hk h4) ReadsAll.nil))
    exact ⟨e, d, h1, ⟨hr1, _, rd⟩, SeqAt.readOf_eq (lay_of (R := R1) hr1) rd⟩
  have at_ : ∀ v ∈ as.map Value.ref, ∃ (j : Nat) (b : Addr), v = .ref b ∧ as[j]? = some b := fun v hv => by
    obtain ⟨b, hb, rfl⟩ := List.mem_map.mp hv
    obtain ⟨j, hj⟩ := List.mem_iff_getElem?.mp hb
    exact ⟨j, b, rfl, hj⟩
  have hrow : ∀ v ∈ as.map Value.ref, IsRow R1 h' v (SeqAt.readOf h' v) := fun v hv => by
    obtain ⟨j, b, rfl, hj⟩ := at_ v hv
    obtain ⟨e, d, _, h2', h3⟩ := row j b hj
    rw [h3]
    exact h2'
  have kkey : ∀ (j : Nat) (b : Addr) (e : Int × V), as[j]? = some b → kvs[j]? = some e → key1 (SeqAt.readOf h' (.ref b)) = e.1 := fun j b e hj he => by
    obtain ⟨e', d, h1, _, h3⟩ := row j b hj
    rw [h1] at he
    obtain rfl := Option.some.inj he
    rw [h3]
    rfl
  have uq : ∀ v ∈ as.map Value.ref, ∀ u ∈ as.map Value.ref, R1.key (SeqAt.readOf h' v) = R1.key (SeqAt.readOf h' u) → SeqAt.readOf h' v = SeqAt.readOf h' u := fun v hv u hu' z => by
    obtain ⟨j, b, rfl, hj⟩ := at_ v hv
    obtain ⟨j2, b2, rfl, hj2⟩ := at_ u hu'
    obtain ⟨e, d, h1, _, h3⟩ := row j b hj
    obtain ⟨e2, d2, h12, _, h32⟩ := row j2 b2 hj2
    have z2 : e.1 = e2.1 := by
      have z : key1 (SeqAt.readOf h' (.ref b)) = key1 (SeqAt.readOf h' (.ref b2)) := z
      rw [kkey j b e hj h1, kkey j2 b2 e2 hj2 h12] at z
      exact z
    have hjl : j < (kvs.map (·.1)).length := by rw [List.length_map]; exact (List.getElem?_eq_some_iff.mp h1).1
    have ej : j = j2 := (List.getElem?_inj hjl nd).mp (by rw [List.getElem?_map, List.getElem?_map, h1, h12, Option.map_some, Option.map_some, z2])
    subst ej
    rw [hj] at hj2
    obtain rfl := Option.some.inj hj2
    rfl
  refine wpAny_call_entry PyProof.Rows.slot_list_sort ⟨_, hob, rfl⟩ PyProof.Rows.entry_list_sort
    (SrtO.list_sort_ord (s := { s with heap := h2, toks := tk }) (ltv := ltR R1 (SeqAt.readOf h')) (lt_map R1.swo fun v => R1.key (SeqAt.readOf h' v)) hob (by rw [List.length_map]; omega) (fun h2' => rows_sortable (R := R1) (h0 := h') hu (by omega) hrow uq fun b o e => ⟨ne0 b o e, ka b o e⟩) fun out o1 o2 => ⟨.none, rfl, ?_⟩) (PyProof.Rows.args_list_sort _)
  show EP X pins σ Q (.ref h'.objs.size) { s with heap := sortedHeap h2 h'.objs.size (as.map Value.ref) out.toArray, toks := tk }
  obtain ⟨zs, pz, ez⟩ := perm_lift (fun z : Addr × Int × V => Value.ref z.1) o2.perm (as.zip kvs) (by
    have m1 : (as.zip kvs).map Prod.fst = as := List.map_fst_zip (by rw [lak]; exact Nat.le_refl _)
    calc (as.zip kvs).map (fun z => Value.ref z.1) = ((as.zip kvs).map Prod.fst).map Value.ref := by rw [List.map_map]; rfl
      _ = as.map Value.ref := by rw [m1])
  have idx : ∀ z ∈ zs, ∃ j : Nat, as[j]? = some z.1 ∧ kvs[j]? = some z.2 := fun z hz' => by
    obtain ⟨j, hj⟩ := List.mem_iff_getElem?.mp (pz.mem_iff.mp hz')
    exact ⟨j, List.getElem?_zip_eq_some.mp hj⟩
  have hperm : (zs.map (·.2)).Perm kvs := by
    have e := pz.map (·.2)
    rw [List.map_snd_zip (by rw [lak]; exact Nat.le_refl _)] at e
    exact e
  have hsort : (zs.map (·.2)).Pairwise (fun e f => e.1 ≤ f.1) := by
    have o1 : out.Pairwise fun x y => ltR R1 (SeqAt.readOf h') y x = false := o1
    rw [← ez, List.pairwise_map] at o1
    rw [List.pairwise_map]
    refine List.Pairwise.imp_of_mem (fun {x y} hx hy h => ?_) o1
    obtain ⟨j, j1, j2⟩ := idx x hx
    obtain ⟨i, i1, i2⟩ := idx y hy
    have hlt' : decide (key1 (SeqAt.readOf h' (.ref y.1)) < key1 (SeqAt.readOf h' (.ref x.1))) = false := h
    rw [kkey j _ _ j1 j2, kkey i _ _ i1 i2, decide_eq_false_iff_not] at hlt'
    omega
  have kF : ∀ b o, b ≠ h'.objs.size → h2.get? b = some o → (sortedHeap h2 h'.objs.size (as.map Value.ref) out.toArray).get? b = some o := fun b o hb e => (PyProof.Rows.sortedHeap_old hb (Heap.lt_size e)).trans e
  have kS : ∀ b o, s.heap.get? b = some o → (sortedHeap h2 h'.objs.size (as.map Value.ref) out.toArray).get? b = some o := fun b o e => kF b o (ne0 _ _ (hk b o e)) (ka b o (hk b o e))
  obtain ⟨eF, heF⟩ := PyProof.Rows.sortedHeap_at (vs := as.map Value.ref) (out := out.toArray) hob
  have I1 : Inv X pins σ H { s with heap := sortedHeap h2 h'.objs.size (as.map Value.ref) out.toArray, toks := tk } := I.kept (t' := tk) kS
  have hn0 : H h'.objs.size = none := I.hok.fresh (Nat.le_of_lt hlt)
  have hlen : (zs.map fun z => V.ref z.1).length ≤ sizeLine := by
    have e := hperm.length_eq
    rw [List.length_map] at e
    rw [List.length_map]
    omega
  have rv : Vals (zs.map fun z => V.ref z.1) out := by
    rw [← ez]
    exact vals_maps (fun z : Addr × Int × V => V.ref z.1) (fun z => Value.ref z.1) zs fun _ _ => rfl
  have I2 : Inv X pins σ (upd H h'.objs.size (.lst (zs.map fun z => V.ref z.1))) { s with heap := sortedHeap h2 h'.objs.size (as.map Value.ref) out.toArray, toks := tk } :=
    I1.take (h' := sortedHeap h2 h'.objs.size (as.map Value.ref) out.toArray) (t' := tk) (fun b ob _ e => e) (I.fpOk (Nat.le_of_lt hlt) hn0) ⟨hlen, out, eF, rv, heF⟩
  obtain ⟨H2, I3, g, qt⟩ := DX.takeT (P := fun b ws => ∃ (j : Nat) (e : Int × V), as[j]? = some b ∧ kvs[j]? = some e ∧ ws = [.int e.1, e.2]) I as _ I2 ndA fun b hb => by
    obtain ⟨j, hj⟩ := List.mem_iff_getElem?.mp hb
    obtain ⟨e, t, u, d, bs, h1, _, h3, _, h5⟩ := pr j b hj
    have hbl : s.heap.objs.size ≤ b := Nat.le_of_lt (hG.above b hb)
    refine ⟨hbl, ?_, [.int e.1, e.2], ⟨j, e, hj, h1, rfl⟩, fun H3 => ⟨(by rw [sizeLine_eq]; show 2 ≤ 16777216; omega), [.int e.1 t, u], .cons ⟨t, rfl⟩ (.cons h3 .nil), ⟨_, kF _ _ (ne0 _ _ h5) (ka _ _ h5), rfl, 0, rfl⟩⟩⟩
    rw [upd_ne (ne0 _ _ h5)]
    exact I.hok.fresh hbl
  have gr : ∀ b o, H b = some o → H2 b = some o := fun b o e => g b o (by rw [upd_ne (ne_of_none e hn0)]; exact e)
  refine ⟨.ref h'.objs.size, H2, I3, rfl, q H2 h'.objs.size zs gr hn0 (g _ _ upd_same) hperm hsort fun z hz' => ?_⟩
  obtain ⟨i, i1, i2⟩ := idx z hz'
  have hbm := List.mem_of_getElem? i1
  obtain ⟨ws, ⟨j, e, j1, j2, ev⟩, hH⟩ := qt z.1 hbm
  have eij : i = j := (List.getElem?_inj (List.getElem?_eq_some_iff.mp i1).1 ndA).mp (i1.trans j1.symm)
  subst eij
  have ee : e = z.2 := Option.some.inj (j2.symm.trans i2)
  rw [ev, ee] at hH
  exact ⟨I.hok.fresh (Nat.le_of_lt (hG.above _ hbm)), hH⟩
end
end L2

/-! over data: sorted rows of any kind, sorted(d.items()); a dict of pairs as one's own, stores and readings of any key -/
namespace PL
open PySem PySem.Spec PyProof.Rows L2 SrtG
variable [Nm]
section
variable {K : PySem.W.Frag} {ρ : Rho} {I J L N : Asn} {ta tb tc te : TE} {tr : TA} {x y : PyData}
theorem e_sortG (R : RowK) {ds es : List PyData} (anti : ∀ x y, R.lt x y = false → R.lt y x = false → x = y) (hr : A K tr ρ I [.d (.list ds)] J) (rows : ∀ d ∈ ds, R.row d) (nd : (ds.map R.key).Nodup) (pm : es.Perm ds) (up : es.Pairwise fun x y => R.lt (R.key y) (R.key x) = false) : E K (tCB (rSortG R K) tr) ρ I (.l es) J :=
  e_cb hr fun G H vs gh jo h Q q => by
    obtain ⟨v, rfl, h1⟩ := dva1 h
    cases h1 with
    | lst s r =>
      refine ⟨_, _, ds, rfl, gh.seq s, dp_monos gh _ _ r, rows, nd, fun ys es' p hy hp hu hn => ?_⟩
      have e : es' = es := List.Perm.eq_of_pairwise (fun a b ha hb h1 h2 => L2.inj_of nd a (hp.mem_iff.mp ha) b (pm.mem_iff.mp hb) (anti _ _ h2 h1)) hu up (hp.trans pm.symm)
      subst e
      have st := Stp.new (o := .lst ys) gh hn
      exact q _ _ _ st.gg st.gh (Asn.pure_st st jo) ⟨p, ys, rfl, upd_same, dp_monos st.gg _ _ (hy G r)⟩
theorem anti1 (x y : Int) (h1 : decide (x < y) = false) (h2 : decide (y < x) = false) : x = y := by
  rw [decide_eq_false_iff_not] at h1 h2
  omega
theorem anti2 (x y : K2) (h1 : lex2 x y = false) (h2 : lex2 y x = false) : x = y := by
  unfold lex2 at h1 h2
  rw [decide_eq_false_iff_not] at h1 h2
  obtain ⟨a, b⟩ := x
  obtain ⟨a', b'⟩ := y
  dsimp only at h1 h2
  have e1 : a = a' := by omega
  have e2 : b = b' := by omega
  rw [e1, e2]
/-- objects that are new in H', and never change -/
def extG (G H H' : Hp) : Hp := fun b => match H b with
  | some _ => G b
  | none => H' b
theorem Stp.ext {G H H' : Hp} (h : Same G H) (e : ∀ b o, H b = some o → H' b = some o) : Stp NoA G H (extG G H H') H' := by
  have old : ∀ b o, H b = some o → extG G H H' b = G b := fun b o z => by unfold extG; rw [z]
  have new : ∀ b, H b = none → extG G H H' b = H' b := fun b z => by unfold extG; rw [z]
  refine ⟨fun b o z => ?_, fun b o z => ?_, fun b o _ z => .of (e b o z), fun b o _ z n => by rw [old b o z]; exact n, fun b o z => ⟨o, e b o z⟩, fun P t => t.keep (fun g => by obtain ⟨ps, hP⟩ := t.some; rw [old P _ hP]; exact g) fun b o z _ _ => e b o z⟩
  · obtain ⟨u, hu, _⟩ := (h b o z).some
    rw [old b u hu]
    exact .of z
  · cases c : H b with
    | none =>
      rw [new b c] at z
      exact .of z
    | some u =>
      rw [old b u c] at z
      have k := h b o z
      rw [c] at k
      rw [e b u c]
      exact k
theorem ext_new {G H H' : Hp} {b : Addr} (h : H b = none) : extG G H H' b = H' b := by unfold extG; rw [h]
theorem kv_ints {G : Hp} : ∀ {kps : List (Int × PyData)} {vs : List (Key × V)}, KvAll K G vs (kps.map prK) → ∃ kvs : List (Int × V), vs = kvs.map ikV ∧ kvs.map (·.1) = kps.map (·.1) ∧ DpAll K G (kvs.map (·.2)) (kps.map (·.2))
  | [], [], _ => ⟨[], rfl, rfl, .nil⟩
  | (n, z) :: kps, (k, v) :: vs, h => by
    obtain ⟨h1, h2⟩ := h
    have e : k = .inl n ∧ vs.map (·.1) = (kps.map prK).map (·.1) := by simpa using h1
    obtain ⟨rfl, e2⟩ := e
    cases h2 with
    | cons r rr =>
      obtain ⟨kvs, e3, e4, e5⟩ := kv_ints (vs := vs) (kps := kps) ⟨e2, rr⟩
      exact ⟨(n, v) :: kvs, by rw [e3]; rfl, by rw [List.map_cons, List.map_cons, e4], .cons r e5⟩
  | [], _ :: _, h => by have := h.1; simp at this
  | _ :: _, [], h => by have := h.1; simp at this
/-- sorted(d.items()) -/
theorem e_sortIK {kps es : List (Int × PyData)} (ha : E K ta ρ I (.k (kps.map prK)) J) (sh : ∀ z ∈ kps, SeqAt.shaped z.2 = true) (nd : (kps.map (·.1)).Nodup) (pm : es.Perm kps) (up : es.Pairwise fun x y => x.1 ≤ y.1) : E K (tCB (rSortIK K) (tCons (tBM0 K "dict" rItemsK ta) tNil)) ρ I (.l (es.map prV)) J := fun G H σ gh en io Q q => by
  refine ha G H σ gh en io _ fun v G1 H1 g1 gh1 j1 dv => ?_
  obtain ⟨a, vs, rfl, ha1, kv⟩ := dv
  have hH : H1 a = some (.dK vs) := gh1 _ _ ha1
  refine ⟨.inr (.inr (.inl ⟨rfl, .inl ⟨vs, hH⟩⟩)), a, vs, rfl, rfl, hH, fun p hp => ?_⟩
  obtain ⟨kvs, rfl, ek, dk⟩ := kv_ints kv
  have g2 : Same G1 (upd H1 p (DX.itemsO p a)) := gh1.trans (same_new hp)
  have hl : ∀ d ∈ kps.map (·.2), SeqAt.shaped d = true := fun d hd => by
    obtain ⟨z, hz, rfl⟩ := List.mem_map.mp hd
    exact sh z hz
  refine ⟨p, a, kvs, kps.map (·.2), rfl, upd_same, by rw [upd_ne (fun z => by rw [z, hp] at hH; cases hH)]; exact hH, dp_monos g2 _ _ dk, hl, by rw [ek]; exact nd, fun H' l zs gr hln hl' hperm hsort hz => ?_⟩
  have st0 := Stp.newM (o := DX.itemsO p a) gh1 hp
  have st1 := Stp.ext st0.gh gr
  have st : Stp NoA G1 H1 _ H' := st0.trans st1
  refine q _ _ H' (g1.trans st.gg) st.gh (Asn.pure_st st j1) ⟨l, zs.map fun z => V.ref z.1, rfl, by rw [ext_new hln]; exact hl', ?_⟩
  -- the pairs that were found are those that were asked for
  have hk : (zs.map (·.2)).map (·.1) = es.map (·.1) := by
    have p1 : ((zs.map (·.2)).map (·.1)).Perm (kps.map (·.1)) := by rw [← ek]; exact hperm.map _
    have p2 : (es.map (·.1)).Perm (kps.map (·.1)) := pm.map _
    refine List.Perm.eq_of_pairwise (le := fun x y : Int => x ≤ y) (fun a b _ _ h1 h2 => Int.le_antisymm h1 h2) (List.pairwise_map.mpr hsort) (List.pairwise_map.mpr up) (p1.trans p2.symm)
  have look : ∀ {kvs : List (Int × V)} {kps : List (Int × PyData)}, kvs.map (·.1) = kps.map (·.1) → (kps.map (·.1)).Nodup → DpAll K G1 (kvs.map (·.2)) (kps.map (·.2)) → ∀ z ∈ kvs, ∀ w ∈ kps, z.1 = w.1 → Dp K G1 z.2 w.2 := by
    intro kvs
    induction kvs with
    | nil => intro kps _ _ _ z hz; simp at hz
    | cons k kvs ih =>
      intro kps e nd d z hz w hw ez
      cases kps with
      | nil => simp at hw
      | cons w0 kps =>
        rw [List.map_cons, List.map_cons] at e
        rw [List.map_cons, List.nodup_cons] at nd
        obtain ⟨e1, e2⟩ := List.cons.inj e
        cases d with
        | cons d1 d2 =>
          rcases List.mem_cons.mp hz with rfl | hz <;> rcases List.mem_cons.mp hw with rfl | hw
          · exact d1
          · exact absurd (List.mem_map.mpr ⟨w, hw, by rw [← ez, e1]⟩) nd.1
          · refine absurd (List.mem_map.mpr ⟨z, hz, ez⟩) ?_
            rw [e2]
            exact nd.1
          · exact ih e2 nd.2 d2 z hz w hw ez
  have fin : ∀ {zs : List (Addr × Int × V)} {es : List (Int × PyData)}, (zs.map (·.2)).map (·.1) = es.map (·.1) → (∀ z ∈ zs, z.2 ∈ kvs) → (∀ w ∈ es, w ∈ kps) → (∀ z ∈ zs, (upd H1 p (DX.itemsO p a)) z.1 = none ∧ H' z.1 = some (.tup [.int z.2.1, z.2.2])) → DpAll K (extG G1 (upd H1 p (DX.itemsO p a)) H') (zs.map fun z => V.ref z.1) (es.map prV) := by
    intro zs
    induction zs with
    | nil =>
      intro es e _ _ _
      cases es with
      | nil => exact .nil
      | cons w es => simp at e
    | cons z zs ih =>
      intro es e m1 m2 hz
      cases es with
      | nil => simp at e
      | cons w es =>
        rw [List.map_cons, List.map_cons, List.map_cons] at e
        obtain ⟨e1, e2⟩ := List.cons.inj e
        obtain ⟨n1, n2⟩ := hz z List.mem_cons_self
        have d := look ek nd dk z.2 (m1 z List.mem_cons_self) w (m2 w List.mem_cons_self) e1
        have i1 : Dp K (extG G1 (upd H1 p (DX.itemsO p a)) H') (.int z.2.1) (.int w.1) := by
          rw [show z.2.1 = w.1 from e1]
          exact .int _
        refine .cons (.tup (.inl (.inl ((ext_new n1).trans n2))) (.cons i1 (.cons (dp_mono st.gg _ _ d) .nil))) (ih e2 (fun y hy => m1 y (List.mem_cons_of_mem _ hy)) (fun y hy => m2 y (List.mem_cons_of_mem _ hy)) fun y hy => hz y (List.mem_cons_of_mem _ hy))
  exact fin hk (fun z hz' => hperm.mem_iff.mp (List.mem_map.mpr ⟨z, hz', rfl⟩)) (fun w hw => pm.mem_iff.mp hw) hz
theorem g_lst {ρ1 : Rho} {ds : List PyData} {g : TGs} {n : Nat} (hn : ds.length = n) (h : GJs K g ds ρ ρ1) : GJ K (gLst K n g) (.list ds) ρ ρ1 := fun G H σ v Q gh en dv q => by
  cases dv with
  | lst s r => exact ⟨_, _, rfl, gh.seq s, by rw [dpa_len r, hn], h G H σ _ Q gh en r q⟩
/-! ### a dict of one's own: any store, any reading, made of pairs -/
/-- a store, over data -/
def putD (kvs : List (Key × PyData)) (k : Key) (x : PyData) : List (Key × PyData) :=
  if (kvs.any fun z => decide (z.1 = k)) = true then kvs.map (fun z => if z.1 = k then (z.1, x) else z) else kvs ++ [(k, x)]
theorem kv_put {G : Hp} {ky : Key} {z : V} {zd : PyData} {vs : List (Key × V)} {kvs : List (Key × PyData)} (h : KvAll K G vs kvs) (hz : Dp K G z zd) : KvAll K G (putK vs ky z) (putD kvs ky zd) := by
  have ea : (vs.any fun kv => decide (kv.1 = ky)) = (kvs.any fun kv => decide (kv.1 = ky)) := by
    have e1 : (vs.any fun kv => decide (kv.1 = ky)) = (vs.map (·.1)).any fun k => decide (k = ky) := by rw [List.any_map]; rfl
    have e2 : (kvs.any fun kv => decide (kv.1 = ky)) = (kvs.map (·.1)).any fun k => decide (k = ky) := by rw [List.any_map]; rfl
    rw [e1, e2, h.1]
  have key : ∀ {vs : List (Key × V)} {kvs : List (Key × PyData)}, KvAll K G vs kvs → KvAll K G (vs.map fun kv => if kv.1 = ky then (kv.1, z) else kv) (kvs.map fun kv => if kv.1 = ky then (kv.1, zd) else kv) := by
    intro vs
    induction vs with
    | nil =>
      intro kvs h
      cases kvs with
      | nil => exact ⟨rfl, .nil⟩
      | cons kv kvs => have := h.1; simp at this
    | cons v vs ih =>
      intro kvs h
      cases kvs with
      | nil => have := h.1; simp at this
      | cons kv kvs =>
        obtain ⟨h1, h2⟩ := h
        have e : v.1 = kv.1 ∧ vs.map (·.1) = kvs.map (·.1) := by simpa using h1
        obtain ⟨e1, e2⟩ := e
        cases h2 with
        | cons r rr =>
          obtain ⟨i1, i2⟩ := ih ⟨e2, rr⟩
          rw [List.map_cons, List.map_cons, e1]
          by_cases c : kv.1 = ky
          · rw [if_pos c, if_pos c]
            exact ⟨by rw [List.map_cons, List.map_cons, i1], .cons hz i2⟩
          · rw [if_neg c, if_neg c]
            exact ⟨by rw [List.map_cons, List.map_cons, i1, e1], .cons r i2⟩
  unfold putK putD
  rw [ea]
  split
  · exact key h
  · refine ⟨by rw [List.map_append, List.map_append, h.1]; rfl, ?_⟩
    rw [List.map_append, List.map_append]
    exact dpa_app h.2 (.cons hz .nil)
/-- x[n] = e, any key -/
theorem s_putKG {i : Nat} {q : Addr} {n : Int} {kvs : List (Key × PyData)} (he : E K te ρ (kJ K q kvs J) (.d x) (kJ K q kvs J)) (hi : ρ[i]? = some (some (.r q))) (hb : E K tb ρ (kJ K q kvs J) (.i n) (kJ K q kvs J)) (hl : kvs.length < 100000) (hf : ¬ J.foot q) :
    S K (sDPut (tVar i) tb te) ρ (kJ K q kvs J) (.nx ρ (kJ K q (putD kvs (.inl n) x) J)) := fun G H σ D gh en io f => he G H σ gh en io _ fun v G1 H1 g1 gh1 j1 dv => by
  obtain ⟨o, ho, rfl⟩ := env_get en hi
  refine ⟨.ref q, ho, hb G1 H1 σ gh1 (env_mono g1 en) j1 _ fun w G2 H2 g2 gh2 j2 dw => ?_⟩
  obtain rfl := dv_int dw
  obtain ⟨⟨gq, vs, hq, r⟩, jo⟩ := j2
  have hlen := kv_len r
  refine ⟨q, _, rfl, DPut.k (k := .inl n) hq (Nat.lt_of_lt_of_le (by omega : vs.length < 100000) (by rw [sizeLine_eq]; decide)), ?_⟩
  have st := Stp.store (o := HO.dK (putK vs (.inl n) v)) gh2 gq hq
  exact f G2 _ σ (g1.trans g2) st.gh (env_mono (g1.trans g2) en) ⟨⟨gq, _, upd_same, kv_put r (dp_mono g2 _ _ dv)⟩, J.st _ _ _ _ _ (fun a fa (z : a = q) => hf (z ▸ fa)) st jo⟩
/-- d.get(n, y), d one's own -/
theorem e_kGetOrM {q : Addr} {kvs : List (Key × PyData)} {n : Int} {z : PyData} (ha : E K ta ρ I (.r q) I) (hb : E K tb ρ I (.i n) I) (hc : E K tc ρ I (.d y) I) (hN : ∀ G H, I.ok G H → (kA K q kvs).ok G H) (h : (valD kvs (.inl n)).getD y = z) : E K (tDGet2 ta tb tc) ρ I (.d z) I := fun G H σ gh en io Q k => ha G H σ gh en io _ fun v G1 H1 g1 gh1 j1 dv => by
  obtain rfl : v = .ref q := dv
  obtain ⟨gq1, vs1, hq1, r1⟩ := hN G1 H1 j1
  refine ⟨q, rfl, .inl ⟨vs1, .of hq1⟩, hb G1 H1 σ gh1 (env_mono g1 en) j1 _ fun w G2 H2 g2 gh2 j2 dw => hc G2 H2 σ gh2 (env_mono (g1.trans g2) en) j2 _ fun u G3 H3 g3 gh3 j3 du => ?_⟩
  obtain rfl := dv_int dw
  obtain ⟨gq, vs, hq, r⟩ := hN G3 H3 j3
  refine ⟨valV vs (.inl n), .inl ⟨vs, .inl n, .of hq, rfl, rfl⟩, ?_⟩
  obtain ⟨h1, h2⟩ := kv_get (ky := .inl n) r
  cases e : valD kvs (.inl n) with
  | none =>
    rw [e] at h
    obtain rfl : y = z := h
    rw [h1 e]
    exact k u G3 H3 ((g1.trans g2).trans g3) gh3 j3 du
  | some x =>
    rw [e] at h
    obtain rfl : x = z := h
    obtain ⟨v, hv, dp⟩ := h2 x e
    rw [hv]
    exact k v G3 H3 ((g1.trans g2).trans g3) gh3 j3 dp
/-- x = dict(pairs), one's own -/
theorem s_dictU {i : Nat} {us : TS} {k : Out} {kps : List (Int × PyData)} (hr : A K tr ρ I [.u (kps.map prV)] I) (nd : (kps.map (·.1)).Nodup) (h : ∀ q, ¬ I.foot q → S K us (ρ.set i (some (.r q))) (kJ K q (kps.map prK) I) k) : S K (tSeq (tAsg (tCB (rDictU K) tr) (gName i)) us) ρ I k := fun G H σ D gh en io f => by
  refine hr G H σ gh en io _ fun vs G1 H1 g1 gh1 j1 dv => ?_
  obtain ⟨v, rfl, a, o, ws, rfl, h2, h3, h4⟩ := dva1 dv
  obtain ⟨ps, kvs, rfl, e2, e3, e4⟩ := prs_of h4
  have nd2 : (kvs.map (·.1)).Nodup := by
    rw [e3, show (fun z : Int × PyData => (Sum.inl z.1 : Key)) = (fun n => (Sum.inl n : Key)) ∘ (fun z => z.1) from rfl, ← List.map_map]
    exact List.Pairwise.map _ (fun _ _ hne z => hne (by injection z)) nd
  have em : mergeK [] kvs = kvs := by
    rw [mergeK_app nd2 (fun _ _ z => by simp at z)]
    rfl
  refine ⟨a, o, ps, kvs, rfl, gh1 _ _ h2, h3, ?_, fun p hp => ?_⟩
  · have : ∀ {ps : List Addr} {kvs : List (Key × V)}, Paired (fun p kv => SqT K G1 p [kV kv.1, kv.2]) ps kvs → Paired (fun p kv => SqT K H1 p [kV kv.1, kv.2]) ps kvs := by
      intro ps kvs h
      induction h with
      | nil => exact .nil
      | cons a _ ih => exact .cons (same_t gh1 a) ih
    exact this e2
  · rw [em]
    have s := Stp.newM (o := HO.dK kvs) gh1 hp
    have gp : G1 p = none := gh1.free hp
    refine h p (fun z => ?_) G1 _ _ D s.gh (env_set (d := .r p) rfl (env_mono g1 en)) ⟨⟨gp, kvs, upd_same, ?_, ?_⟩, Asn.pure_st s j1⟩ (f.mono g1)
    · obtain ⟨o, ho⟩ := I.own G1 H1 p j1 z
      rw [ho] at hp
      cases hp
    · rw [e3, List.map_map]
      rfl
    · rw [List.map_map]
      exact e4
end
end PL

/-! over data: sorted(d), list.index, a comprehension with a test over any walk -/
namespace PL
open PySem PySem.Spec PyProof.Rows L2
variable [Nm]
section
variable {K : PySem.W.Frag} {ρ : Rho} {I J L N : Asn} {ta tb tc te : TE} {tr : TA} {x y : PyData}
theorem hu65 {A : Around} {k : Nat} (hr : Room k A) : A.units + 65 < cLine := by
  have := hr.un
  omega
abbrev rSortDI : List V → Hp → VK → Prop := fun xs H Q => ∃ (a : Addr) (kvs : List (Key × V)) (ks : List Int), xs = [.ref a] ∧ Rd H a (.dK kvs) ∧ kvs.map (·.1) = ks.map Sum.inl ∧ ks.length < 64 ∧
    ∀ (ys : List Int) (p : Addr), ys.Perm ks → ys.Pairwise (· ≤ ·) → H p = none → Q (.ref p) (upd H p (.lst (ys.map V.int)))
/-- sorted(d), d with whole numbers as keys -/
theorem e_sortDI {kvs : List (Key × PyData)} {ks es : List Int} (hr : A K tr ρ I [.k kvs] J) (hk : kvs.map (·.1) = ks.map Sum.inl) (hl : ks.length < 64) (pm : es.Perm ks) (up : es.Pairwise (· ≤ ·)) : E K (tCB rSortDI tr) ρ I (.l (es.map PyData.int)) J :=
  e_cb hr fun G H vs gh jo h Q q => by
    obtain ⟨v, rfl, a, ws, rfl, h2, h3⟩ := dva1 h
    refine ⟨a, ws, ks, rfl, .of (gh _ _ h2), by rw [h3.1, hk], hl, fun ys p hp hs hn => ?_⟩
    have e : ys = es := List.Perm.eq_of_pairwise (le := fun x y : Int => x ≤ y) (fun a b _ _ h1 h2 => Int.le_antisymm h1 h2) hs up (hp.trans pm.symm)
    subst e
    have st := Stp.new (o := .lst (ys.map V.int)) gh hn
    exact q _ _ _ st.gg st.gh (Asn.pure_st st jo) ⟨p, _, rfl, upd_same, dpa_ints ys⟩
/-- xs.index(y) -/
theorem e_index {ds : List PyData} {j : Nat} {z : PyData} (ha : E K ta ρ I (.d (.list ds)) J) (hb : E K tb ρ J (.d y) L) (sd : SeqAt.shaped (.list ds) = true) (sy : SeqAt.shaped y = true) (hz : ds[j]? = some z) (he : PyData.eqv z y = true) (hno : ∀ (m : Nat) (z' : PyData), m < j → ds[m]? = some z' → PyData.eqv z' y = false) : E K (tBM K "list" (rIndexD K) ta (tCons tb tNil)) ρ I (.i (j : Nat)) L := fun G H σ gh en io Q q => by
  refine ha G H σ gh en io _ fun v G1 H1 g1 gh1 j1 dv => ?_
  cases dv with
  | lst s r =>
    refine ⟨.inl ⟨rfl, _, gh1.seq s⟩, ?_⟩
    refine hb G1 H1 σ gh1 (env_mono g1 en) j1 _ fun w G2 H2 g2 gh2 j2 dw => ?_
    exact ⟨_, w, y, ds, j, z, rfl, rfl, dp_mono (g2.trans gh2) _ _ (.lst s r), dp_mono gh2 _ _ dw, sd, sy, hz, he, hno, q _ G2 H2 (g1.trans g2) gh2 j2 (.int _)⟩
/-- [e for g in .. if t] -/
theorem e_lcTW {wi : TI} {g : TG} {tt : TT} {vs : List Nat} {n : Nat} {xs : Nat → PyData} {b : Nat → Bool} {e : Nat → PyData} (hl : IW K wi ρ I n xs I) (hz : n ≤ 100000)
    (he : ∀ i, i < n → ∃ ρ', GW K g vs (xs i) (wipeR ρ vs) ρ' ∧ (∀ I', T K tt ρ' I' (b i) I') ∧ (b i = true → ∀ I', E K te ρ' I' (.d (e i)) I')) : E K (tLc wi g tt te vs) ρ I (.d (.list (rowK b e n))) I := fun G H σ gh en io Q q =>
  hl G H σ gh en io _ fun Ji G1 H1 g1 gh1 j1 wk D hD => by
    have gD : G1 D = none := gh1.free hD
    have nD : ∀ a, I.foot a → ¬ a = D := fun a fa z => by
      obtain ⟨o, ho⟩ := I.own G1 H1 a j1 fa
      rw [z, hD] at ho
      cases ho
    have st0 := Stp.newM (o := HO.lst []) gh1 hD
    refine ⟨fun i m H' => m = n - i ∧ i ≤ n ∧ ∃ G', Same G1 G' ∧ Same G' H' ∧ I.ok G' H' ∧ (lA K D (rowK b e i)).ok G' H' ∧ Stp (· = D) G1 (upd H1 D (.lst [])) G' H', ⟨n, rfl, Nat.zero_le _, G1, Same.refl _, st0.gh, Asn.pure_st st0 j1, ⟨gD, [], upd_same, .nil⟩, Stp.refl st0.gh⟩, fun i m H' hw => ?_⟩
    obtain ⟨rfl, hi, G', a1, a2, a3, a4, a5⟩ := hw
    by_cases c : i < n
    · obtain ⟨ρ', hg, ht, hel⟩ := he i c
      refine .inr ⟨wk.go i G' H' c a1 a2, fun H2 => ∃ G2, Same G1 G2 ∧ Same G2 H2 ∧ I.ok G2 H2 ∧ (lA K D (rowK b e (i + 1))).ok G2 H2 ∧ Stp (· = D) G1 (upd H1 D (.lst [])) G2 H2, fun H2 z => ⟨n - (i + 1), by omega, rfl, c, z⟩, fun v H2 y => ?_⟩
      obtain ⟨G2, st, dp⟩ := wk.yld i G' H' v H2 c a1 a2 y
      refine hg G2 H2 _ v _ st.gh (env_wipe (env_mono ((g1.trans a1).trans st.gg) en) vs) dp fun σ' en' hw => ⟨hw.trans (wipe_wipe σ vs), ?_⟩
      refine ht (((lA K D (rowK b e i)).and I).and (Asn.since (· = D) G1 (upd H1 D (.lst [])))) G2 H2 σ' st.gh en' ⟨⟨Asn.pure_st st a4, Asn.pure_st st a3⟩, a5.trans (st.wide fun _ z => z.elim)⟩ _ fun G7 H7 g7 gh7 j7 => ?_
      by_cases hb : b i = true
      · rw [if_pos hb]
        refine hel hb (((lA K D (rowK b e i)).and I).and (Asn.since (· = D) G1 (upd H1 D (.lst [])))) G7 H7 σ' gh7 (env_mono g7 en') j7 _ fun z G3 H3 g3 gh3 j3 dy => ?_
        obtain ⟨⟨⟨gq, ws, hq, r2⟩, i3⟩, st3⟩ := j3
        have st4 := Stp.store (o := HO.lst (ws ++ [z])) gh3 gq hq
        refine ⟨ws, hq, ?_, G3, ((a1.trans st.gg).trans g7).trans g3, st4.gh, I.st _ _ _ _ _ nD st4 i3, ⟨gq, _, upd_same, ?_⟩, st3.trans st4⟩
        · rw [dpa_len r2]
          have := rowK_len (b := b) (e := e) i
          rw [sizeLine_eq]
          omega
        · rw [rowK_s, if_pos hb]
          exact dpa_app r2 (.cons dy .nil)
      · rw [if_neg hb]
        obtain ⟨⟨l7, i7⟩, s7⟩ := j7
        refine ⟨G7, (a1.trans st.gg).trans g7, gh7, i7, ?_, s7⟩
        rw [rowK_s, if_neg hb, List.append_nil]
        exact l7
    · have ei : i = n := by omega
      subst ei
      obtain ⟨gq, ws, hq, r2⟩ := a4
      have st : Stp (· = D) G' H' (upd G' D (.lst ws)) H' := Stp.frz a2 gq hq
      exact .inl ⟨wk.stop G' H' a1 a2, q _ (upd G' D (.lst ws)) H' ((g1.trans a1).trans st.gg) st.gh (I.st _ _ _ _ _ nD st a3) (.lst (.inl (.inl upd_same)) (dp_monos st.gg _ ws r2))⟩
end
end PL

/-! comprehensions whose elements lean on what holds around them -/
namespace PL
open PySem PySem.Spec PyProof.Rows L2
variable [Nm]
section
variable {K : PySem.W.Frag} {ρ : Rho} {I J L N : Asn} {ta tb tc te : TE} {tr : TA} {x y : PyData}
theorem HasT.of {T : Tbs} [h : HasT T I] {I' : Asn} (k : ∀ G H, I'.ok G H → I.ok G H) : HasT T I' := ⟨fun G H z => h.get G H (k G H z)⟩
theorem e_lcWI {wi : TI} {g : TG} {vs : List Nat} {n : Nat} {xs : Nat → PyData} {es : List PyData} (hl : IW K wi ρ I n xs I) (hn : es.length = n) (hz : n ≤ 100000)
    (he : ∀ i y, i < n → es[i]? = some y → ∃ ρ', GW K g vs (xs i) (wipeR ρ vs) ρ' ∧ ∀ I' : Asn, (∀ G H, I'.ok G H → I.ok G H) → E K te ρ' I' (.d y) I') : E K (tLc wi g tYes te vs) ρ I (.d (.list es)) I := fun G H σ gh en io Q q =>
  hl G H σ gh en io _ fun Ji G1 H1 g1 gh1 j1 wk D hD => by
    have gD : G1 D = none := gh1.free hD
    have nD : ∀ a, I.foot a → ¬ a = D := fun a fa z => by
      obtain ⟨o, ho⟩ := I.own G1 H1 a j1 fa
      rw [z, hD] at ho
      cases ho
    have st0 := Stp.newM (o := HO.lst []) gh1 hD
    refine ⟨fun i m H' => m = n - i ∧ i ≤ n ∧ ∃ G', Same G1 G' ∧ Same G' H' ∧ I.ok G' H' ∧ (lA K D (es.take i)).ok G' H' ∧ Stp (· = D) G1 (upd H1 D (.lst [])) G' H', ⟨n, rfl, Nat.zero_le _, G1, Same.refl _, st0.gh, Asn.pure_st st0 j1, ⟨gD, [], upd_same, .nil⟩, Stp.refl st0.gh⟩, fun i m H' hw => ?_⟩
    obtain ⟨rfl, hi, G', a1, a2, a3, a4, a5⟩ := hw
    by_cases c : i < n
    · have hi3 : i < es.length := by omega
      obtain ⟨ρ', hg, hel⟩ := he i _ c (List.getElem?_eq_getElem hi3)
      refine .inr ⟨wk.go i G' H' c a1 a2, fun H2 => ∃ G2, Same G1 G2 ∧ Same G2 H2 ∧ I.ok G2 H2 ∧ (lA K D (es.take (i + 1))).ok G2 H2 ∧ Stp (· = D) G1 (upd H1 D (.lst [])) G2 H2, fun H2 z => ⟨n - (i + 1), by omega, rfl, c, z⟩, fun v H2 y => ?_⟩
      obtain ⟨G2, st, dp⟩ := wk.yld i G' H' v H2 c a1 a2 y
      refine hg G2 H2 _ v _ st.gh (env_wipe (env_mono ((g1.trans a1).trans st.gg) en) vs) dp fun σ' en' hw => ⟨hw.trans (wipe_wipe σ vs), ?_⟩
      refine hel (((lA K D (es.take i)).and I).and (Asn.since (· = D) G1 (upd H1 D (.lst [])))) (fun _ _ z => z.1.2) G2 H2 _ st.gh en' ⟨⟨Asn.pure_st st a4, Asn.pure_st st a3⟩, a5.trans (st.wide fun _ z => z.elim)⟩ _ fun y G3 H3 g3 gh3 j3 dy => ?_
      obtain ⟨⟨⟨gq, ws, hq, r2⟩, i3⟩, st3⟩ := j3
      have st4 := Stp.store (o := HO.lst (ws ++ [y])) gh3 gq hq
      refine ⟨ws, hq, ?_, G3, (a1.trans st.gg).trans g3, st4.gh, I.st _ _ _ _ _ nD st4 i3, ⟨gq, _, upd_same, ?_⟩, st3.trans st4⟩
      · rw [dpa_len r2, List.length_take]
        exact Nat.lt_of_le_of_lt (Nat.min_le_left _ _) (Nat.lt_of_le_of_lt (show i ≤ 100000 by omega) (by decide))
      · rw [List.take_add_one, List.getElem?_eq_getElem hi3]
        exact dpa_app r2 (.cons dy .nil)
    · have ei : i = n := by omega
      subst ei
      obtain ⟨gq, ws, hq, r2⟩ := a4
      have st : Stp (· = D) G' H' (upd G' D (.lst ws)) H' := Stp.frz a2 gq hq
      refine .inl ⟨wk.stop G' H' a1 a2, q _ (upd G' D (.lst ws)) H' ((g1.trans a1).trans st.gg) st.gh (I.st _ _ _ _ _ nD st a3) (.lst (.inl (.inl upd_same)) (dp_monos st.gg _ ws ?_))⟩
      rw [show es = es.take i by rw [List.take_of_length_le (by omega)]]
      exact r2
/-- [e for g in .. if t] -/
theorem e_lcTWI {wi : TI} {g : TG} {tt : TT} {vs : List Nat} {n : Nat} {xs : Nat → PyData} {b : Nat → Bool} {e : Nat → PyData} (hl : IW K wi ρ I n xs I) (hz : n ≤ 100000)
    (he : ∀ i, i < n → ∃ ρ', GW K g vs (xs i) (wipeR ρ vs) ρ' ∧ (∀ I' : Asn, (∀ G H, I'.ok G H → I.ok G H) → T K tt ρ' I' (b i) I') ∧ (b i = true → ∀ I' : Asn, (∀ G H, I'.ok G H → I.ok G H) → E K te ρ' I' (.d (e i)) I')) : E K (tLc wi g tt te vs) ρ I (.d (.list (rowK b e n))) I := fun G H σ gh en io Q q =>
  hl G H σ gh en io _ fun Ji G1 H1 g1 gh1 j1 wk D hD => by
    have gD : G1 D = none := gh1.free hD
    have nD : ∀ a, I.foot a → ¬ a = D := fun a fa z => by
      obtain ⟨o, ho⟩ := I.own G1 H1 a j1 fa
      rw [z, hD] at ho
      cases ho
    have st0 := Stp.newM (o := HO.lst []) gh1 hD
    refine ⟨fun i m H' => m = n - i ∧ i ≤ n ∧ ∃ G', Same G1 G' ∧ Same G' H' ∧ I.ok G' H' ∧ (lA K D (rowK b e i)).ok G' H' ∧ Stp (· = D) G1 (upd H1 D (.lst [])) G' H', ⟨n, rfl, Nat.zero_le _, G1, Same.refl _, st0.gh, Asn.pure_st st0 j1, ⟨gD, [], upd_same, .nil⟩, Stp.refl st0.gh⟩, fun i m H' hw => ?_⟩
    obtain ⟨rfl, hi, G', a1, a2, a3, a4, a5⟩ := hw
    by_cases c : i < n
    · obtain ⟨ρ', hg, ht, hel⟩ := he i c
      refine .inr ⟨wk.go i G' H' c a1 a2, fun H2 => ∃ G2, Same G1 G2 ∧ Same G2 H2 ∧ I.ok G2 H2 ∧ (lA K D (rowK b e (i + 1))).ok G2 H2 ∧ Stp (· = D) G1 (upd H1 D (.lst [])) G2 H2, fun H2 z => ⟨n - (i + 1), by omega, rfl, c, z⟩, fun v H2 y => ?_⟩
      obtain ⟨G2, st, dp⟩ := wk.yld i G' H' v H2 c a1 a2 y
      refine hg G2 H2 _ v _ st.gh (env_wipe (env_mono ((g1.trans a1).trans st.gg) en) vs) dp fun σ' en' hw => ⟨hw.trans (wipe_wipe σ vs), ?_⟩
      refine ht (((lA K D (rowK b e i)).and I).and (Asn.since (· = D) G1 (upd H1 D (.lst [])))) (fun _ _ z => z.1.2) G2 H2 σ' st.gh en' ⟨⟨Asn.pure_st st a4, Asn.pure_st st a3⟩, a5.trans (st.wide fun _ z => z.elim)⟩ _ fun G7 H7 g7 gh7 j7 => ?_
      by_cases hb : b i = true
      · rw [if_pos hb]
        refine hel hb (((lA K D (rowK b e i)).and I).and (Asn.since (· = D) G1 (upd H1 D (.lst [])))) (fun _ _ z => z.1.2) G7 H7 σ' gh7 (env_mono g7 en') j7 _ fun z G3 H3 g3 gh3 j3 dy => ?_
        obtain ⟨⟨⟨gq, ws, hq, r2⟩, i3⟩, st3⟩ := j3
        have st4 := Stp.store (o := HO.lst (ws ++ [z])) gh3 gq hq
        refine ⟨ws, hq, ?_, G3, ((a1.trans st.gg).trans g7).trans g3, st4.gh, I.st _ _ _ _ _ nD st4 i3, ⟨gq, _, upd_same, ?_⟩, st3.trans st4⟩
        · rw [dpa_len r2]
          have := rowK_len (b := b) (e := e) i
          rw [sizeLine_eq]
          omega
        · rw [rowK_s, if_pos hb]
          exact dpa_app r2 (.cons dy .nil)
      · rw [if_neg hb]
        obtain ⟨⟨l7, i7⟩, s7⟩ := j7
        refine ⟨G7, (a1.trans st.gg).trans g7, gh7, i7, ?_, s7⟩
        rw [rowK_s, if_neg hb, List.append_nil]
        exact l7
    · have ei : i = n := by omega
      subst ei
      obtain ⟨gq, ws, hq, r2⟩ := a4
      have st : Stp (· = D) G' H' (upd G' D (.lst ws)) H' := Stp.frz a2 gq hq
      exact .inl ⟨wk.stop G' H' a1 a2, q _ (upd G' D (.lst ws)) H' ((g1.trans a1).trans st.gg) st.gh (I.st _ _ _ _ _ nD st a3) (.lst (.inl (.inl upd_same)) (dp_monos st.gg _ ws r2))⟩
end
end PL

set_option maxHeartbeats 1000000
/-! sorted(xs, key=lambda z: (z[0], z[1])) -/
namespace LM
open PySem PySem.Spec PyProof.Rows L2
section
variable {prog : Program} {w : World} {A : Around} {s : Shared} {E : Value → Shared → Prop} {Q : Value → Shared → Prop} {env : Env}
/-- z[i] within the lambda -/
theorem item_now {a : Str} {p1 p2 p3 : Pos} {kd : Nat} {i : Int} {j : Nat} {p : Addr} {its : List Value} {x : Value} {m : Str → Option Value} (hk : env.scope.kind = .function) (hl : env.kindOf a = some .local) (hn : s.heap.Ns env.locals m) (hm : m a = some (.ref p)) (hd : (a == ("__debug__" : Str)) = false)
    (ht : IsTup s.heap p its.toArray) (h0 : i = (j : Nat)) (hj : j < 2 ^ 62) (hx : its[j]? = some x) (h : ∀ tk, Q x { s with toks := tk }) : wpAny (model prog w) A (eval (.Subscript (.Name a p1) (.Constant (.int i) kd p2) p3) env) Q E s := by
  subst h0
  have hlt : j < its.length := (List.getElem?_eq_some_iff.mp hx).1
  refine Subscript_ (wpAny_Name (wpAny_loadName_local hk hl hn hm ?_) hd)
  refine wpAny_Constant_int ?_
  refine item_tuple (items := its.toArray) (j := j) ht (by omega) (by omega) ?_ (by simpa using hx) (h _)
  rw [seqIndex_of (by omega) (by rw [List.size_toArray]; omega)]
  simp
/-- the key: (z[0], z[1]) -/
theorem body_now {a : Str} {p1 p2 p3 p4 p5 p6 p7 : Pos} {k1 k2 x1 : Nat} {p : Addr} {its : List Value} {x y : Value} {m : Str → Option Value} (hk : env.scope.kind = .function) (hl : env.kindOf a = some .local) (hn : s.heap.Ns env.locals m) (hm : m a = some (.ref p)) (hd : (a == ("__debug__" : Str)) = false)
    (ht : IsTup s.heap p its.toArray) (hx : its[0]? = some x) (hy : its[1]? = some y) (h : ∀ tk, Q (.ref s.heap.objs.size) { s with toks := tk, heap := s.heap.push { cls := .type "tuple", data := .seq #[x, y] } }) :
    wpAny (model prog w) A (eval (.Tuple [.Subscript (.Name a p1) (.Constant (.int 0) k1 p2) p3, .Subscript (.Name a p4) (.Constant (.int 1) k2 p5) p6] x1 p7) env) Q E s := by
  refine wpAny_Tuple_spliced ?_
  show wpAny _ _ (spliced ((false, _) :: (false, _) :: [])) _ _ s
  refine Calls.spliced_cons (item_now (j := 0) hk hl hn hm hd ht rfl (by decide) hx fun t1 => ?_)
  refine Calls.spliced_cons (item_now (s := { s with toks := t1 }) (j := 1) hk hl hn hm hd ht rfl (by decide) hy fun t2 => ?_)
  refine Calls.spliced_nil ⟨?_, h t2⟩
  show 2 ≤ sizeLine
  rw [sizeLine_eq]
  decide
/-- the body of such a lambda -/
def keyBody (a : Str) (p1 p2 p3 p4 p5 p6 p7 : Pos) (k1 k2 x1 : Nat) : Expr := .Tuple [.Subscript (.Name a p1) (.Constant (.int 0) k1 p2) p3, .Subscript (.Name a p4) (.Constant (.int 1) k2 p5) p6] x1 p7
/-- its scope: one name, the parameter -/
structure KeyS (a : Str) (sc : Scope) : Prop where
  kind : sc.kind = .function
  co : sc.isCoroutine = false
  gen : sc.isGenerator = false
  cell : ∀ y ∈ sc.names, y.2 ≠ .cell
  free : ∀ y ∈ sc.names, y.2 ≠ .free
  par : sc.names.lookup a = some .local
  dbg : (a == ("__debug__" : Str)) = false
/-- its call gives the key and keeps all that was -/
theorem lam_call {a qn : Str} {p1 p2 p3 p4 p5 p6 p7 : Pos} {k1 k2 x1 : Nat} {sc : Scope} {params : Arguments} {f c' p : Addr} {pm ctv : Value} {its : List Value} {i j : Int} {ti tj : Tok} (S : KeyS a sc) (dp : A.depth < recursionLimit)
    (hf : s.heap.get? f = some (PySem.W.kla_obj "<lambda>" qn params (keyBody a p1 p2 p3 p4 p5 p6 p7 k1 k2 x1) sc [] pm c' ctv)) (hc : ∃ (oc : Obj) (vs : Array Value) (t : Tok), s.heap.get? c' = some oc ∧ oc.data = .fields vs ∧ vs[1]? = some (.str qn t)) (lim : s.heap.NoLimit)
    (hb : bindArgs (PySem.W.kla_fn "<lambda>" qn params (keyBody a p1 p2 p3 p4 p5 p6 p7 k1 k2 x1) sc [] pm (.ref c') ctv) ⟨[.ref p], []⟩ = pure [(a, .ref p)])
    (ht : IsTup s.heap p its.toArray) (hx : its[0]? = some (.int i ti)) (hy : its[1]? = some (.int j tj)) :
    wpAny (model prog w) A (call (.ref f) [.ref p]) (PySem.W.KeyPure (.tuple [.int i, .int j]) s) (fun _ _ => False) s := by
  refine wpAny_call ?_
  obtain ⟨oc, vs, t, h1, h2, h3⟩ := hc
  refine PySem.W.kla_callFunE dp hf rfl S.co S.gen rfl ⟨c', oc, vs, t, rfl, h1, h2, h3⟩ ?_
  rw [hb]
  refine wpAny_pure (wpAny_newFunctionEnv S.cell (fun y hy => by rw [List.mem_singleton.mp hy]; exact S.par) (fun h₁ hns hsb => ?_) S.kind)
  have kp : ∀ b o, s.heap.get? b = some o → h₁.get? b = some o := fun b o e => hsb.extBut b o (Nat.ne_of_lt (Heap.lt_size e)) (Heap.get?_push_of_some _ e)
  refine ⟨lim.fresh _ hsb, ?_⟩
  refine PySem.W.kla_codeExpr ?_
  refine body_now (m := fun x => ([(a, .ref p)] : List (Str × Value)).reverse.lookup x) S.kind S.par hns ?_ S.dbg (ht.keeps kp) hx hy fun tk => ?_
  · show List.lookup a [(a, Value.ref p)] = _
    simp [List.lookup]
  · refine ⟨_, tk, rfl, fun b o e => Heap.get?_push_of_some _ (kp b o e), ?_⟩
    exact .tuple (Heap.get?_push_size _ rfl) rfl rfl (.cons (as := []) (bs := []) (.int i ti) (.cons (as := []) (bs := []) (.int j tj) .nil))
end
/-! ### the heap that is told of, across the making of a lambda -/
open LamX in
/-- all but the table at P is as it was; the table tells codes of the name q -/
structure Lm (P : Addr) (q : Str) (H H' : Hp) : Prop where
  keep : ∀ b o, b ≠ P → H b = some o → H' b = some o
  tab : TabS H' P q
open LamX in
theorem tab_ne {H : Hp} {P b : Addr} {q : Str} {o : HO} (t : TabS H P q) (h : H b = some o) (n : ∀ ps, o ≠ .tbl ps) : b ≠ P := fun z => by
  obtain ⟨ps, e, _⟩ := t
  rw [z, e] at h
  exact n ps (Option.some.inj h).symm
open LamX in
theorem Lm.seqL {K : PySem.W.Frag} {P a : Addr} {q : Str} {H H' : Hp} {xs : List V} (l : Lm P q H H') (t : TabS H P q) (h : SqL K H a xs) : SqL K H' a xs := by
  rcases h with (h | ⟨o, h⟩) | h
  · exact .inl (.inl (l.keep _ _ (tab_ne t h fun _ z => by cases z) h))
  · exact .inl (.inr ⟨o, l.keep _ _ (tab_ne t h fun _ z => by cases z) h⟩)
  · exact .inr h
open LamX in
theorem Lm.seqT {K : PySem.W.Frag} {P a : Addr} {q : Str} {H H' : Hp} {xs : List V} (l : Lm P q H H') (t : TabS H P q) (h : SqT K H a xs) : SqT K H' a xs := by
  rcases h with (h | ⟨o, h⟩) | h
  · exact .inl (.inl (l.keep _ _ (tab_ne t h fun _ z => by cases z) h))
  · exact .inl (.inr ⟨o, l.keep _ _ (tab_ne t h fun _ z => by cases z) h⟩)
  · exact .inr h
section
open LamX
variable {X : Cx} {pins : List (Addr × Obj)} {σ : L2.St} {H : Hp} {s : Shared}
theorem clo_nil : ∀ (ns : List (Str × NameKind)) (cells : List (Str × Addr)), (∀ y ∈ ns, y.2 ≠ .free) → cloFrom cells ns [] = []
  | [], _, _ => rfl
  | (n, k) :: ns, cells, h => by
    have hk := h (n, k) List.mem_cons_self
    have ih := clo_nil ns cells fun y hy => h y (List.mem_cons_of_mem _ hy)
    cases k <;> first | exact absurd rfl hk | (unfold cloFrom; exact ih)
/-- the lambda stands -/
theorem lam_new {c P : Addr} {params : Arguments} {body : Expr} {sc : Scope} {pos : Pos} {E Q : Value → Shared → Prop} (I : Inv X pins σ H s) (B : TabB X.base X.mg c P) (hcd : X.env.code = .ref c) (ht : TabS H P (X.env.qual ++ "<lambda>")) (hd : defaultsOf params X.env = ([], [])) (nf : ∀ y ∈ sc.names, y.2 ≠ .free)
    (done : ∀ (f c' : Addr) (pm ctv : Value) (H1 : Hp) (s1 : Shared), Inv X pins σ H1 s1 → Lm P (X.env.qual ++ "<lambda>") H H1 → s1.heap.get? f = some (PySem.W.kla_obj "<lambda>" (X.env.qual ++ "<lambda>") params body sc [] pm c' ctv) →
      (∃ (oc : Obj) (vs : Array Value) (t : Tok), s1.heap.get? c' = some oc ∧ oc.data = .fields vs ∧ vs[1]? = some (.str (X.env.qual ++ "<lambda>") t)) → Q (.ref f) s1) : wpAny (model X.prog X.w) X.A (eval (.Lambda params body sc pos) X.env) Q E s := by
  obtain ⟨ps, hP, tr, all⟩ := ht
  have clo : closureFor sc X.env = pure [] := by
    rw [closure_ok fun y hy e => absurd e (nf y hy), clo_nil _ _ nf]
  have sP := I.hok P _ hP
  have bP := B.bm.keeps I.bk
  have gl := I.mod.glob.keeps I.bk
  refine PySem.W.kla_eval hd ?_
  rcases hz : codeAmong pos ps.toList with _ | cv
  · refine PySem.W.kla_makeFunction (mg := X.mg) (c := c) (P := P) (ps := ps) clo I.ok.glob gl hcd (B.code.keeps I.bk) sP tr hz B.gP bP fun c' ctv h1 tk eb le lt rec tb => ?_
    obtain ⟨c2, oc, vs, t, e2, e3, e4, e5⟩ := rec
    cases e2
    have nc : H c' = none := I.hok.fresh le
    have nPc : P ≠ c' := fun z => by
      rw [← z, hP] at nc
      cases nc
    have J := inv_table (q := X.env.qual ++ "<lambda>") (t' := tk) (more := #[rawInt pos.line, rawInt pos.col, .ref c']) (h' := h1.push (PySem.W.kla_obj "<lambda>" (X.env.qual ++ "<lambda>") params body sc [] ((X.mg "__name__").getD .none) c' ctv)) I hP
      (fun b o nb e => Heap.get?_push_of_some _ (eb b o nb e)) (Heap.get?_push_of_some _ tb) le ⟨oc, vs, t, Heap.get?_push_of_some _ e3, e4, e5⟩
    refine done _ c' _ ctv _ _ J ⟨fun b o nb e => ?_, ⟨ps ++ #[rawInt pos.line, rawInt pos.col, .ref c'], ?_, ?_, fun p2 cv hcv => ?_⟩⟩ (Heap.get?_push_size _ rfl) ⟨oc, vs, t, Heap.get?_push_of_some _ e3, e4, e5⟩
    · have nb2 : b ≠ c' := fun z => by
        rw [z, nc] at e
        cases e
      rw [upd_ne nb2, upd_ne nb]
      exact e
    · rw [upd_ne nPc, upd_same]
    · rw [show (ps ++ #[rawInt pos.line, rawInt pos.col, .ref c']).toList = ps.toList ++ [rawInt pos.line, rawInt pos.col, .ref c'] by simp]
      exact PySem.TriplesOk_snoc _ _ _ _ tr
    · rw [show (ps ++ #[rawInt pos.line, rawInt pos.col, .ref c']).toList = ps.toList ++ [rawInt pos.line, rawInt pos.col, .ref c'] by simp] at hcv
      rcases among_app _ tr hcv with z | z
      · obtain ⟨c0, q1, q2⟩ := all p2 cv z
        have n0 : c0 ≠ c' := fun y => by
          rw [y, nc] at q2
          cases q2
        have n1 : c0 ≠ P := fun y => by
          rw [y, hP] at q2
          exact codeO_ne ps (Option.some.inj q2).symm
        exact ⟨c0, q1, by rw [upd_ne n0, upd_ne n1]; exact q2⟩
      · exact ⟨c', z, upd_same⟩
  · obtain ⟨c', rfl, q2⟩ := all pos cv hz
    refine PySem.W.kla_makeFunctionHit (mg := X.mg) (c := c) (P := P) (ps := ps) clo I.ok.glob gl hcd (B.code.keeps I.bk) sP tr hz bP fun ctv h1 tk kp le => ?_
    have J : Inv X pins σ H { s with heap := h1.push (PySem.W.kla_obj "<lambda>" (X.env.qual ++ "<lambda>") params body sc [] ((X.mg "__name__").getD .none) c' ctv), toks := tk } := I.kept fun b o e => Heap.get?_push_of_some _ (kp b o e)
    obtain ⟨⟨oc, vs, t, e3, e4, e5⟩, _, _⟩ := I.hok c' _ q2
    exact done _ c' _ ctv H _ J ⟨fun _ _ _ e => e, ⟨ps, hP, tr, all⟩⟩ (Heap.get?_push_size _ rfl) ⟨oc, vs, t, Heap.get?_push_of_some _ (kp _ _ e3), e4, e5⟩
end
/-- rows and their keys: the order -/
abbrev RowL := Addr × Int × Int
def leL (x y : RowL) : Bool := decide (x.2.1 < y.2.1 ∨ (x.2.1 = y.2.1 ∧ x.2.2 ≤ y.2.2))
open LamX in
def tSLam (K : PySem.W.Frag) (P : Addr) (q : Str) (ta : TA) : TE := fun σ H Q => ta σ H fun vs H1 => ∃ (l : Addr) (rows : List RowL), vs = [.ref l] ∧ SqL K H1 l (rows.map fun r => V.ref r.1) ∧ (∀ r ∈ rows, ∃ rest, SqT K H1 r.1 (.int r.2.1 :: .int r.2.2 :: rest)) ∧ TabS H1 P q ∧
  ∀ H2, Lm P q H1 H2 → ∀ D, H2 D = none → Q (.ref D) (upd H2 D (.lst ((rows.mergeSort leL).map fun r => V.ref r.1)))
theorem each_of {α β : Type} {R : α → β → Prop} : ∀ {xs : List α} {ys : List β}, xs.length = ys.length → (∀ (i : Nat) (x : α) (y : β), xs[i]? = some x → ys[i]? = some y → R x y) → PySem.W.EachIs R xs ys
  | [], [], _, _ => .nil
  | [], _ :: _, h, _ => by simp at h
  | _ :: _, [], h, _ => by simp at h
  | x :: xs, y :: ys, h, r => .cons (r 0 x y rfl rfl) (each_of (by simpa using h) fun i a b ha hb => r (i + 1) a b (by simpa using ha) (by simpa using hb))
theorem each_map {α β : Type} {f : β → α} : ∀ {xs : List α} {ys : List β}, PySem.W.EachIs (fun x y => x = f y) xs ys → xs = ys.map f
  | _, _, .nil => rfl
  | _, _, .cons h t => by rw [h, each_map t]; rfl
theorem vals_refs {α : Type} {f : α → Addr} : ∀ (xs : List α) (us : List Value), Vals (xs.map fun r => V.ref (f r)) us → us = xs.map fun r => Value.ref (f r)
  | [], _, .nil => rfl
  | x :: xs, _, .cons h t => by
    rw [vals_refs xs _ t]
    cases h
    rfl
theorem vals_of {α : Type} {f : α → Addr} : ∀ (xs : List α), Vals (xs.map fun r => V.ref (f r)) (xs.map fun r => Value.ref (f r))
  | [] => .nil
  | x :: xs => .cons rfl (vals_of xs)
section
open LamX
variable {X : Cx}
/-- sorted(e, key=lambda z: (z[0], z[1])) -/
theorem pe_sortLam {a q : Str} {c P : Addr} {e : Expr} {ta : TA} {p pos kpos lpos p1 p2 p3 p4 p5 p6 p7 : Pos} {k1 k2 x1 k : Nat} {sc : Scope} {params : Arguments} (hg : Gl X "sorted") (hm : X.mg "sorted" = none) (B : TabB X.base X.mg c P) (hcd : X.env.code = .ref c) (hr : Room k X.A) (S : KeyS a sc) (hd : defaultsOf params X.env = ([], [])) (hqn : X.env.qual ++ ("<lambda>" : Str) = q)
    (hb : ∀ (qn : Str) (pm cv ctv v : Value), bindArgs (PySem.W.kla_fn "<lambda>" qn params (keyBody a p1 p2 p3 p4 p5 p6 p7 k1 k2 x1) sc [] pm cv ctv) ⟨[v], []⟩ = pure [(a, v)]) (ha : PA X [e] ta)
    (he : backTo pos (starEach [e] X.env) = (false, eval e X.env) :: backTo pos (starEach [] X.env) := by rfl) (hpl : (backTo pos (starEach [e] X.env)).any (·.1) = false := by rfl) :
    PE X (.Call (.Name "sorted" p) [e] [⟨some "key", .Lambda params (keyBody a p1 p2 p3 p4 p5 p6 p7 k1 k2 x1) sc lpos, kpos⟩] pos) (tSLam X.K P q ta) := by
  subst hqn
  refine ⟨fun pins s σ H Q I h => ?_⟩
  refine wpAny_Call_Name_kw (ld_blt (X := X) I hg hm (show bootBuiltins "sorted" = some (.builtin "sorted") by decide +kernel) ?_)
  refine PyProof.Rows.callWith_kw (thn (ha.run pos pins s σ H _ I h) fun us s1 ⟨vs, H1, I1, r1, q1⟩ => ?_) he hpl
  obtain ⟨l, rows, rfl, hl, hrow, ht, hq⟩ := q1
  cases r1 with
  | cons r0 rn =>
  cases rn
  cases r0
  refine wpAny_evalAll_cons (wpAny_bind (lam_new I1 B hcd ht hd S.free fun f c' pm ctv H2 s2 I2 lm hf hc => wpAny_bind (wpAny_standAt (wpAny_pure (wpAny_evalAll_nil ?_)))))
  show wpAny _ _ (call (.builtin "sorted") [.ref l] [(Str.ofString "key", .ref f)]) _ _ s2
  obtain ⟨its, hv, pl, hz⟩ := I2.list (lm.seqL ht hl)
  rw [vals_refs rows its hv] at pl
  have lenR : rows.length ≤ sizeLine := by rw [List.length_map] at hz; exact hz
  refine PySem.W.sorted_key_data (vs := rows.map fun r => Value.ref r.1) (b := false) (R := fun v r => v = Value.ref r.1 ∧ ∃ (us : List Value) (ti tj : Tok), IsTup s2.heap r.1 us.toArray ∧ us[0]? = some (.int r.2.1 ti) ∧ us[1]? = some (.int r.2.2 tj)) (fun r : RowL => .tuple [.int r.2.1, .int r.2.2]) pl.isList (each_of (by rw [List.length_map]) fun i v r h1 h2 => ?_)
    (PySem.W.AllAlike.of fun _ _ => by simp [PySem.W.alike, PySem.W.alikeAll]) (PySem.W.Sortable.tuples fun _ => ⟨_, _, rfl⟩) lenR (fun r _ => ?_) (ksk_s1 _ _) (fun _ => ksk_l1 _ _) (fun _ => ksk_t1 _ _) (fun v r hvr _ h' tk kp => ?_) fun out cc h' tk kp _ hD hlen eo => ?_
  · rw [List.getElem?_map, h2] at h1
    obtain rfl := Option.some.inj h1
    obtain ⟨rest, hs⟩ := hrow r (List.mem_of_getElem? h2)
    obtain ⟨us, ru, iu, _⟩ := I2.tuple (lm.seqT ht hs)
    cases ru with
    | cons ra ru =>
    cases ru with
    | cons rb ru =>
    obtain ⟨ti, rfl⟩ := ra
    obtain ⟨tj, rfl⟩ := rb
    exact ⟨rfl, _, ti, tj, iu, rfl, rfl⟩
  · have hdp : (PyData.tuple [.int r.2.1, .int r.2.2]).depth = 1 := by simp [PyData.depth, PyData.depthAll]
    have := hr.un
    rw [hdp]
    omega
  · obtain ⟨rfl, us, ti, tj, iu, e1, e2⟩ := hvr
    obtain ⟨oc, ws, t, g1, g2, g3⟩ := hc
    have dp : X.A.in1.in1.depth < recursionLimit := by
      have := hr.dp
      show X.A.depth < _
      omega
    exact lam_call (s := { s2 with heap := h', toks := tk }) S dp (kp _ _ hf) ⟨oc, ws, t, kp _ _ g1, g2, g3⟩ (I2.nolimit.keeps kp) (hb _ _ _ _ _) (iu.keeps kp) e1 e2
  · have eo2 := each_map (f := fun r : RowL => Value.ref r.1) (eo.mono fun _ _ z => z.1)
    rw [PySem.W.dataLe_ii (β := RowL) (fun r => r.2.1) (fun r => r.2.2)] at eo2
    have hfr : H2 (s2.heap.objs.size + 1) = none := I2.hok.fresh (Nat.le_succ _)
    refine ⟨.ref (s2.heap.objs.size + 1), _, I2.laid (t' := tk) kp (Nat.le_succ _) ?_, rfl, hq H2 lm _ hfr⟩
    refine ⟨by rw [List.length_map, List.length_mergeSort]; exact lenR, _, cc, vals_of (f := fun r : RowL => r.1) _, ?_⟩
    rw [hD, eo2]
    rfl
end
end LM

/-! over data: sorted(xs, key=lambda z: (z[0], z[1])) -/
namespace PL
open PySem PySem.Spec PyProof.Rows L2
variable [Nm]
def key2D : PyData → Int × Int
  | .tuple (.int a :: .int b :: _) => (a, b)
  | _ => (0, 0)
theorem nodup_inj {α β : Type} {f : α → β} : ∀ {xs : List α} {a b : α}, (xs.map f).Nodup → a ∈ xs → b ∈ xs → f a = f b → a = b
  | x :: xs, a, b, nd, ha, hb, e => by
    rw [List.map_cons, List.nodup_cons] at nd
    rcases List.mem_cons.mp ha with rfl | ha2 <;> rcases List.mem_cons.mp hb with rfl | hb2
    · rfl
    · exact (nd.1 (by rw [e]; exact List.mem_map.mpr ⟨_, hb2, rfl⟩)).elim
    · exact (nd.1 (by rw [← e]; exact List.mem_map.mpr ⟨_, ha2, rfl⟩)).elim
    · exact nodup_inj nd.2 ha2 hb2 e
def le2 (x y : Int × Int) : Prop := x.1 < y.1 ∨ (x.1 = y.1 ∧ x.2 ≤ y.2)
section
variable {K : PySem.W.Frag} {ρ : Rho} {I J : Asn} {tr : TA}
/-- a row of the list: its object, its key, its data -/
abbrev Row3L := (Addr × Int × Int) × PyData
theorem rows_of {G : Hp} : ∀ {vs : List V} {ds : List PyData}, DpAll K G vs ds → (∀ d ∈ ds, ∃ a b r, d = .tuple (.int a :: .int b :: r)) →
    ∃ zs : List Row3L, vs = zs.map (fun z => V.ref z.1.1) ∧ ds = zs.map (·.2) ∧ ∀ z ∈ zs, z.1.2 = key2D z.2 ∧ Dp K G (.ref z.1.1) z.2 ∧ ∃ rest, SqT K G z.1.1 (.int z.1.2.1 :: .int z.1.2.2 :: rest)
  | _, _, .nil, _ => ⟨[], rfl, rfl, fun z h => by cases h⟩
  | _, d :: ds, .cons (vs := vs) h t, hr => by
    obtain ⟨a, b, r, rfl⟩ := hr d List.mem_cons_self
    obtain ⟨zs, e1, e2, e3⟩ := rows_of t fun x hx => hr x (List.mem_cons_of_mem _ hx)
    have h0 := h
    cases h with
    | tup s rr =>
      rename_i p us
      cases rr with
      | cons ra rr =>
      cases rr with
      | cons rb rr =>
      cases ra
      cases rb
      refine ⟨((p, a, b), .tuple (.int a :: .int b :: r)) :: zs, by rw [e1]; rfl, by rw [e2]; rfl, fun z hz => ?_⟩
      rcases List.mem_cons.mp hz with rfl | hz
      · exact ⟨rfl, h0, _, s⟩
      · exact e3 z hz
theorem dpa_map {G : Hp} : ∀ {zs : List Row3L}, (∀ z ∈ zs, Dp K G (.ref z.1.1) z.2) → DpAll K G (zs.map fun z => V.ref z.1.1) (zs.map (·.2))
  | [], _ => .nil
  | z :: zs, h => .cons (h z List.mem_cons_self) (dpa_map fun y hy => h y (List.mem_cons_of_mem _ hy))
/-- sorted(xs, key=lambda z: (z[0], z[1])) -/
theorem e_sortLam {T : Tbs} {P : Addr} {q : Str} {ds es : List PyData} [hT : HasT T J] (hP : P ∈ T.ls) (hq : Nm.nm P = q) (hr : A K tr ρ I [.d (.list ds)] J) (rows : ∀ d ∈ ds, ∃ a b r, d = .tuple (.int a :: .int b :: r)) (nd : (ds.map key2D).Nodup) (pm : es.Perm ds) (up : es.Pairwise fun x y => le2 (key2D x) (key2D y)) :
    E K (LM.tSLam K P q tr) ρ I (.l es) J := fun G H σ gh en io Q k => hr G H σ gh en io _ fun vs G1 H1 g1 gh1 j1 dvs => by
  obtain ⟨v, rfl, dv⟩ := dva1 dvs
  cases dv with
  | lst s r =>
    rename_i l us
    obtain ⟨zs, rfl, rfl, hz⟩ := rows_of r rows
    have t := (hT.get _ _ j1).2 P hP
    have t2 := t.2
    rw [hq] at t2
    refine ⟨l, zs.map (·.1), rfl, by rw [List.map_map]; exact gh1.seq s, fun r hr => ?_, t2, fun H2 lm D hD => ?_⟩
    · obtain ⟨z, hzm, rfl⟩ := List.mem_map.mp hr
      obtain ⟨_, _, rest, hs⟩ := hz z hzm
      exact ⟨rest, same_t gh1 hs⟩
    · have st1 := Stp.lam gh1 t hq lm.keep lm.tab
      have st2 := Stp.new (o := HO.lst (((zs.map (·.1)).mergeSort LM.leL).map fun r => V.ref r.1)) st1.gh hD
      have st := st1.trans st2
      let le' : Row3L → Row3L → Bool := fun x y => LM.leL x.1 y.1
      have em : (zs.mergeSort le').map (·.1) = (zs.map (·.1)).mergeSort LM.leL := List.map_mergeSort fun a _ b _ => rfl
      have pz : (zs.mergeSort le').Perm zs := List.mergeSort_perm zs le'
      have srt : (zs.mergeSort le').Pairwise fun x y => le' x y = true := List.pairwise_mergeSort (fun a b c h1 h2 => by
        simp only [le', LM.leL, decide_eq_true_iff] at h1 h2 ⊢
        omega) (fun a b => by
        simp only [le', LM.leL, Bool.or_eq_true, decide_eq_true_iff]
        omega) zs
      have e2 : es = (zs.mergeSort le').map (·.2) := by
        refine List.Perm.eq_of_pairwise (le := fun x y => le2 (key2D x) (key2D y)) (fun a b ha hb h1 h2 => ?_) up ?_ (pm.trans (pz.map _).symm)
        · have ha' := pm.mem_iff.mp ha
          have hb' : b ∈ zs.map (·.2) := (pz.map _).mem_iff.mp hb
          have ek : key2D a = key2D b := by
            unfold le2 at h1 h2
            exact Prod.ext (by omega) (by omega)
          exact nodup_inj nd ha' hb' ek
        · rw [List.pairwise_map]
          refine srt.imp_of_mem fun {x y} hx hy h => ?_
          have kx := (hz x (pz.mem_iff.mp hx)).1
          have ky := (hz y (pz.mem_iff.mp hy)).1
          simp only [le', LM.leL, decide_eq_true_iff] at h
          show le2 (key2D x.2) (key2D y.2)
          rw [← kx, ← ky]
          exact h
      refine k _ _ _ (g1.trans st.gg) st.gh (Asn.pure_st st j1) ⟨D, _, rfl, upd_same, ?_⟩
      have eV : (((zs.map (·.1)).mergeSort LM.leL).map fun r => V.ref r.1) = (zs.mergeSort le').map fun z => V.ref z.1.1 := by
        rw [← em, List.map_map]
        rfl
      rw [e2]
      show DpAll K _ (((zs.map (·.1)).mergeSort LM.leL).map fun r => V.ref r.1) _
      have key := dp_monos st.gg _ _ (dpa_map (zs := zs.mergeSort le') fun z hzm => (hz z (pz.mem_iff.mp hzm)).2.1)
      rw [← eV] at key
      exact key
end
end PL

/-! a dict comprehension with a test; list.extend; a displayed tuple as a plain one; x in a tuple of data -/
namespace L2
open PySem PySem.Spec PyProof.Rows
section
variable {X : Cx}
def rInTD (K : PySem.W.Frag) : R2 := fun x y H Q => ∃ d ds, Dp K H x d ∧ Dp K H y (.tuple ds) ∧ SeqAt.shaped d = true ∧ SeqAt.shaped (.tuple ds) = true ∧ Q (.bl (ds.any fun z => PyData.eqv z d)) H
theorem op_inTD (hu : X.A.units + 65 < cLine) : OpR X (compareOp .In) (rInTD X.K) := by
  intro pins s σ H x y v u Q I rx ry h
  obtain ⟨d, ds, h1, h2, s1, s2, q⟩ := h
  obtain ⟨as, r1⟩ := Dp.reads I d x v h1 rx
  obtain ⟨bs, r2⟩ := Dp.reads I (.tuple ds) y u h2 ry
  refine SeqAt.in_tuple_reads r2 r1 (SeqAt.canLay_of_shaped s2) (SeqAt.canLay_of_shaped s1) ?_ ⟨.bl _, H, I, rfl, q⟩
  unfold SeqAt.shaped at s1
  rw [Bool.and_eq_true, decide_eq_true_iff] at s1
  have := Nat.min_le_right (PyData.depthAll ds) d.depth
  omega
/-- a displayed tuple, told as a plain one -/
def tTupU (t : TA) : TE := fun σ H Q => t σ H fun xs H1 => xs.length ≤ sizeLine ∧ ∀ p o, H1 p = none → o.dict = none → Q (.ref p) (upd H1 p (.frz o (.tup xs)))
theorem pe_tupU {es : List Expr} {t : TA} {pos : Pos} {k : Nat} (h : PA X es t) : PE X (.Tuple es k pos) (tTupU t) := by
  refine ⟨fun pins s σ H Q I hq => ?_⟩
  refine wpAny_Tuple_spliced (thn (h.run pos pins s σ H _ I hq) fun us s1 ⟨xs, H1, I1, r, z, q⟩ => ⟨by rw [← r.length]; exact z, ?_⟩)
  have hg : (s1.heap.push { cls := .type "tuple", data := .seq us.toArray }).get? s1.heap.objs.size = some { cls := .type "tuple", data := .seq us.toArray } := Heap.get?_push_size _ rfl
  exact ⟨.ref s1.heap.objs.size, _, I1.laid (t' := s1.toks) (fun b o e => Heap.get?_push_of_some _ e) (Nat.le_refl _) (show ObjOk X.prog X.w _ _ _ (.frz { cls := .type "tuple", data := .seq us.toArray } (.tup xs)) from ⟨hg, z, us, r, IsTup.new _ _⟩), rfl, q _ _ (I1.hok.fresh (Nat.le_refl _)) rfl⟩
end
end L2
namespace PL
open PySem PySem.Spec PyProof.Rows L2
variable [Nm]
def rowD (b : Nat → Bool) (k : Nat → Int) (e : Nat → PyData) (j : Nat) : List (Key × PyData) := ((List.range j).filter b).map fun j => (.inl (k j), e j)
theorem rowD_s {b : Nat → Bool} {k : Nat → Int} {e : Nat → PyData} {j : Nat} : rowD b k e (j + 1) = rowD b k e j ++ (if b j = true then [(.inl (k j), e j)] else []) := by
  unfold rowD
  rw [List.range_succ, List.filter_append, List.map_append]
  by_cases h : b j = true
  · rw [if_pos h, List.filter_cons_of_pos h]
    rfl
  · rw [if_neg h, List.filter_cons_of_neg h]
    rfl
theorem rowD_len {b : Nat → Bool} {k : Nat → Int} {e : Nat → PyData} (j : Nat) : (rowD b k e j).length ≤ j := by
  unfold rowD
  rw [List.length_map]
  exact Nat.le_trans (List.length_filter_le _ _) (by rw [List.length_range]; exact Nat.le_refl _)
theorem rng_inj {n : Nat} {k : Nat → Int} {i j : Nat} (nd : ((List.range n).map k).Nodup) (hi : i < n) (hj : j < n) (h : k i = k j) : i = j :=
  nodup_inj nd (List.mem_range.mpr hi) (List.mem_range.mpr hj) h
section
variable {K : PySem.W.Frag} {ρ : Rho} {I J L N : Asn} {ta tb tc te : TE} {tr : TA} {x y : PyData} {ts : TS} {k : Out} {q : Addr} {ds es : List PyData}
theorem e_inT {xs : List PyData} (ha : E K ta ρ I (.d y) J) (hb : E K tb ρ J (.t xs) L) (hx : SeqAt.shaped y = true) (hy : SeqAt.shaped (.tuple xs) = true) : E K (tOp (rInTD K) ta tb) ρ I (.b (xs.any fun z => PyData.eqv z y)) L :=
  e_op ha hb fun G H v w gh lo dx dy Q q => ⟨y, xs, dp_mono gh _ _ dx, dp_mono gh _ _ dy, hx, hy, q _ G H (Same.refl _) gh lo (.bl _)⟩
theorem e_tupD {ds : List Dat} {xs : List PyData} (hr : A K tr ρ I ds J) (hd : Ds ds xs) (hl : xs.length ≤ 100000) : E K (tTupU tr) ρ I (.u xs) J := fun G H σ gh en io Q q => hr G H σ gh en io _ fun vs G1 H1 g1 gh1 j1 dv => by
  have r : DpAll K G1 vs xs := dva_dp (by rw [← hd.map]; exact dv)
  refine ⟨by rw [dpa_len r]; exact Nat.le_trans hl (by rw [sizeLine_eq]; decide), fun p o hp ho => ?_⟩
  have st := Stp.new (o := .frz o (.tup vs)) gh1 hp
  exact q _ _ _ (g1.trans st.gg) st.gh (Asn.pure_st st j1) ⟨p, o, vs, rfl, upd_same, ho, dp_monos st.gg _ _ r⟩
/-- a list of one's own, handed on as it is -/
theorem s_freezeL {i : Nat} (hi : ρ[i]? = some (some (.r q))) (hf : ¬ J.foot q) (hs : S K ts (ρ.set i (some (.l ds))) J k) : S K ts ρ (lJ K q ds J) k := fun G H σ D gh en io f => by
  obtain ⟨⟨gq, vs, hq, r⟩, jo⟩ := io
  have s := Stp.frz gh gq hq
  exact hs (upd G q (.lst vs)) H σ D s.gh (env_putK (z := .l ds) ⟨q, vs, rfl, upd_same, dp_monos s.gg ds vs r⟩ (env_mono s.gg en) hi) (J.st _ _ _ _ _ (fun a fa (z : a = q) => hf (z ▸ fa)) s jo) (f.mono s.gg)
/-- q.extend(e) -/
theorem s_ext {i : Nat} (he : E K te ρ (lJ K q ds J) (.l es) (lJ K q ds J)) (hi : ρ[i]? = some (some (.r q))) (hl : ds.length + es.length ≤ 100000) (hf : ¬ J.foot q) : S K (tDrop (tBM K "list" rExtend (tVar i) (tCons te tNil))) ρ (lJ K q ds J) (.nx ρ (lJ K q (ds ++ es) J)) := fun G H σ D gh en io f => by
  obtain ⟨v, hv, dv⟩ := env_get en hi
  obtain rfl : v = .ref q := dv
  have io' := io
  obtain ⟨⟨gq, vs, hq, r⟩, jo⟩ := io
  refine ⟨.ref q, hv, .inl ⟨rfl, _, .inl (.inl hq)⟩, he G H σ gh en io' _ fun w G1 H1 g1 gh1 j1 ⟨a, us, ew, ha, ru⟩ => ?_⟩
  obtain ⟨⟨gq1, vs1, hq1, r1⟩, jo1⟩ := j1
  subst ew
  have s := Stp.store (o := HO.lst (vs1 ++ us)) gh1 gq1 hq1
  refine ⟨q, a, vs1, us, rfl, rfl, hq1, ?_, ?_, ?_⟩
  · have := gh1 _ _ ha
    exact this
  · rw [dpa_len r1, dpa_len ru]
    exact Nat.le_trans hl (by rw [sizeLine_eq]; decide)
  · exact f G1 _ σ g1 s.gh (env_mono g1 en) ⟨⟨gq1, _, upd_same, dpa_app r1 ru⟩, J.st _ _ _ _ _ (fun a fa (z : a = q) => hf (z ▸ fa)) s jo1⟩
/-- {k: e for g in .. if t}, keys that are numbers, each once -/
theorem e_dcTW {wi : TI} {g : TG} {tt : TT} {tk : TE} {vs : List Nat} {n : Nat} {xs : Nat → PyData} {b : Nat → Bool} {k : Nat → Int} {e : Nat → PyData} (hl : IW K wi ρ I n xs I) (hz : n ≤ 100000) (nd : ((List.range n).map k).Nodup)
    (he : ∀ i, i < n → ∃ ρ', GW K g vs (xs i) (wipeR ρ vs) ρ' ∧ (∀ I', T K tt ρ' I' (b i) I') ∧ (b i = true → (∀ I', E K tk ρ' I' (.i (k i)) I') ∧ ∀ I', E K te ρ' I' (.d (e i)) I')) : E K (tDc wi g tt tk te vs) ρ I (.k (rowD b k e n)) I := fun G H σ gh en io Q q =>
  hl G H σ gh en io _ fun Ji G1 H1 g1 gh1 j1 wk D hD => by
    have gD : G1 D = none := gh1.free hD
    have nD : ∀ a, I.foot a → ¬ a = D := fun a fa z => by
      obtain ⟨o, ho⟩ := I.own G1 H1 a j1 fa
      rw [z, hD] at ho
      cases ho
    have st0 := Stp.newM (o := HO.dK []) gh1 hD
    refine ⟨fun i m H' => m = n - i ∧ i ≤ n ∧ ∃ G', Same G1 G' ∧ Same G' H' ∧ I.ok G' H' ∧ (kA K D (rowD b k e i)).ok G' H' ∧ Stp (· = D) G1 (upd H1 D (.dK [])) G' H', ⟨n, rfl, Nat.zero_le _, G1, Same.refl _, st0.gh, Asn.pure_st st0 j1, ⟨gD, [], upd_same, rfl, .nil⟩, Stp.refl st0.gh⟩, fun i m H' hw => ?_⟩
    obtain ⟨rfl, hi, G', a1, a2, a3, a4, a5⟩ := hw
    by_cases c : i < n
    · obtain ⟨ρ', hg, ht, hel⟩ := he i c
      refine .inr ⟨wk.go i G' H' c a1 a2, fun H2 => ∃ G2, Same G1 G2 ∧ Same G2 H2 ∧ I.ok G2 H2 ∧ (kA K D (rowD b k e (i + 1))).ok G2 H2 ∧ Stp (· = D) G1 (upd H1 D (.dK [])) G2 H2, fun H2 z => ⟨n - (i + 1), by omega, rfl, c, z⟩, fun v H2 y => ?_⟩
      obtain ⟨G2, st, dp⟩ := wk.yld i G' H' v H2 c a1 a2 y
      refine hg G2 H2 _ v _ st.gh (env_wipe (env_mono ((g1.trans a1).trans st.gg) en) vs) dp fun σ' en' hw => ⟨hw.trans (wipe_wipe σ vs), ?_⟩
      refine ht (((kA K D (rowD b k e i)).and I).and (Asn.since (· = D) G1 (upd H1 D (.dK [])))) G2 H2 σ' st.gh en' ⟨⟨Asn.pure_st st a4, Asn.pure_st st a3⟩, a5.trans (st.wide fun _ z => z.elim)⟩ _ fun G7 H7 g7 gh7 j7 => ?_
      by_cases hb : b i = true
      · rw [if_pos hb]
        obtain ⟨hky, hel⟩ := hel hb
        refine hky (((kA K D (rowD b k e i)).and I).and (Asn.since (· = D) G1 (upd H1 D (.dK [])))) G7 H7 σ' gh7 (env_mono g7 en') j7 _ fun kv G3 H3 g3 gh3 j3 dk => ?_
        refine hel _ G3 H3 σ' gh3 (env_mono (g7.trans g3) en') j3 _ fun z G4 H4 g4 gh4 j4 dy => ?_
        obtain rfl := dv_int dk
        obtain ⟨⟨⟨gq, ws, hq, r2⟩, i3⟩, st3⟩ := j4
        have hlen := kv_len r2
        have nk : (.inl (k i) : Key) ∉ (rowD b k e i).map (·.1) := fun z => by
          obtain ⟨p, hp, ep⟩ := List.mem_map.mp z
          obtain ⟨j, hj, rfl⟩ := List.mem_map.mp hp
          have hj2 := List.mem_range.mp (List.mem_filter.mp hj).1
          have ek : k j = k i := by
            have : (Sum.inl (k j) : Key) = .inl (k i) := ep
            injection this
          exact absurd (rng_inj nd (by omega) c ek) (by omega)
        have st4 := Stp.store (o := HO.dK (putK ws (.inl (k i)) z)) gh4 gq hq
        refine ⟨ws, .inl (k i), rfl, hq, ?_, G4, (((a1.trans st.gg).trans g7).trans g3).trans g4, st4.gh, I.st _ _ _ _ _ nD st4 i3, ⟨gq, _, upd_same, ?_⟩, st3.trans st4⟩
        · rw [hlen]
          have := rowD_len (b := b) (k := k) (e := e) i
          rw [sizeLine_eq]
          omega
        · rw [rowD_s, if_pos hb]
          exact (kv_new r2 dy nk).1
      · rw [if_neg hb]
        obtain ⟨⟨l7, i7⟩, s7⟩ := j7
        refine ⟨G7, (a1.trans st.gg).trans g7, gh7, i7, ?_, s7⟩
        rw [rowD_s, if_neg hb, List.append_nil]
        exact l7
    · have ei : i = n := by omega
      subst ei
      obtain ⟨gq, ws, hq, r2⟩ := a4
      have st : Stp (· = D) G' H' (upd G' D (.dK ws)) H' := Stp.frz a2 gq hq
      exact .inl ⟨wk.stop G' H' a1 a2, q _ (upd G' D (.dK ws)) H' ((g1.trans a1).trans st.gg) st.gh (I.st _ _ _ _ _ nD st a3) ⟨D, ws, rfl, upd_same, r2.1, dp_monos st.gg _ _ r2.2⟩⟩
end
end PL

/-! enumerate of a tuple; a loop's body that goes on early -/
namespace EnT
open PySem PySem.Spec PyProof.Rows L2
set_option maxHeartbeats 1000000 in
theorem enum_make (a : Addr) (its : Array Value) :
    Meets (Builtin.«enumerate.__new__» ⟨[.type "enumerate", .ref a], []⟩) (fun _ R s => s.heap.IsTuple a its ∧
      R (.ok (.ret (.ref (s.heap.push { cls := .type "tuple_iterator", data := .fields #[.ref a, .int 0 0] }).objs.size)))
        { s with heap := (s.heap.push { cls := .type "tuple_iterator", data := .fields #[.ref a, .int 0 0] }).push { cls := .type "enumerate", data := .fields #[.none, .bool false, .ref s.heap.objs.size, rawInt 0, .none, .none] } }) :=
  .of_wp fun prog w A R s hh => by
    obtain ⟨h0, g0, d0, t0, o0⟩ := s
    obtain ⟨isT, fin⟩ := hh
    have sub0 := sub_enumerate
    have goIt : ∀ {B : Around} {EE QQ : Value → Shared → Prop}, QQ (.ref h0.objs.size) ⟨h0.push { cls := .type "tuple_iterator", data := .fields #[.ref a, .int 0 0] }, g0, d0, t0, o0⟩ → wpAny (model prog w) B (pyIter (.ref a)) QQ EE ⟨h0, g0, d0, t0, o0⟩ :=
      fun q => (begins_tuple a its).iter prog w _ _ ⟨h0, g0, d0, t0, o0⟩ _ isT q
    wp_walk using goIt
    refine wpAny_stack_any fun _ => wpAny_pure ?_
    split
    · rename_i cl _ _ _ _ _
      cases (cl == Value.type "enumerate") <;> (wp_walk using goIt; exact ⟨_, rfl, fin⟩)
    · wp_walk using goIt
      exact ⟨_, rfl, fin⟩
section
variable {prog : Program} {w : World} {A : Around} {E : Value → Shared → Prop} {s : Shared}
theorem call_enumT {a : Addr} {its : Array Value} {Q : Value → Shared → Prop} (hT : s.heap.IsTuple a its)
    (k : ∀ h2, IsEnum h2 (s.heap.objs.size + 1) s.heap.objs.size 0 .none → h2.IsTupleIter s.heap.objs.size a 0 → (∀ b o, s.heap.get? b = some o → h2.get? b = some o) → Q (.ref (s.heap.objs.size + 1)) { s with heap := h2 }) :
    wpAny (model prog w) A (call (.type "enumerate") [.ref a]) Q E s := by
  refine callType_new F.called_enumerate (by decide) (F.typeCall_enumerate_1 _) (F.newCall_enumerate_1 _) (fun ob => F.args_object_init_2 ob _) F.entry_enumerate_new (enum_make a its) ⟨hT, ?_⟩
  have sz : (s.heap.push { cls := .type "tuple_iterator", data := .fields #[.ref a, .int 0 0] }).objs.size = s.heap.objs.size + 1 := Heap.size_push ..
  have en := Heap.get?_push_size (s.heap.push { cls := .type "tuple_iterator", data := .fields #[.ref a, .int 0 0] }) (o := { cls := .type "enumerate", data := .fields #[.none, .bool false, .ref s.heap.objs.size, rawInt 0, .none, .none] }) rfl
  rw [sz] at en
  show _ ∧ _
  rw [sz]
  exact ⟨⟨_, en, rfl⟩, k _ en ⟨_, Heap.get?_push_of_some _ (Heap.get?_push_size _ rfl), rfl, rfl⟩ fun b o e => Heap.get?_push_of_some _ (Heap.get?_push_of_some _ e)⟩
end
/-- the tuple at a as it stands at each turn, each item in a new pair -/
def IteT (K : PySem.W.Frag) (a : Addr) : It :=
  ⟨fun i H => ∃ (xs : List V) (x : V), SqT K H a xs ∧ xs[i]? = some x, fun i H v H' => ∃ T x, v = .ref T ∧ H T = none ∧ H' = upd H T (.tup [.int (i : Nat), x]) ∧ ∀ xs, SqT K H a xs → xs[i]? = some x, fun i H => ∃ xs : List V, SqT K H a xs ∧ xs.length = i⟩
def StE (e it a : Addr) (i : Nat) (h : Heap) : Prop := (∃ old, IsEnum h e it ((0 : Int) + (i : Int)) old) ∧ h.IsTupleIter it a i
theorem turn_enumT {P : Program} {w : World} {K : PySem.W.Frag} {elts : List Expr} {kk : Nat} {tpos : Pos} {a N : Addr} (ha : a < N) :
    Turn P w K (.Tuple elts kk tpos) (IteT K a) [N + 1, N] (N + 1) (StE (N + 1) N a) where
  mem := by simp
  obj := fun i h st b hb => by
    obtain ⟨⟨old, he⟩, ⟨o, ho, _, hd⟩⟩ := st
    have hb2 : b = N + 1 ∨ b = N := by simpa using hb
    rcases hb2 with z | z
    · rw [z]; exact ⟨_, he, fun v q => nomatch q⟩
    · rw [z]; exact ⟨o, ho, fun v q => by rw [hd] at q; cases q⟩
  keep := fun i h h' st k => let ⟨⟨old, he⟩, hi⟩ := st; ⟨⟨old, k _ (by simp) _ he⟩, hi.at fun o q => k N (by simp) o q⟩
  item := by
    intro X hP hw hK hcm i pins s σ H E I hf st hg
    subst hP hw hK
    obtain ⟨xs, x, hq, hx⟩ := hg
    obtain ⟨its, rv, p, _⟩ := I.tuple hq
    obtain ⟨u, hu, ru⟩ := rv.get hx
    obtain ⟨he, hit⟩ := st
    have hh : X.A.in1.handled = none := I.ok.hd hcm
    have D := Draws.tuple (prog := X.prog) (w := X.w) hh N a (Nat.ne_of_lt ha) its.toArray
    have W := GoesN.enumFrom (elts := elts) (x1 := kk) (pos := tpos) (A := X.A) 0 D (N + 1) (Nat.succ_ne_self N) (by
      intro z
      have z2 : N + 1 = N ∨ N + 1 = a := by simpa using z
      rcases z2 with y | y
      · exact Nat.succ_ne_self N y
      · exact absurd ha (by rw [← y]; exact Nat.not_lt.mpr (Nat.le_succ N))) (by simp)
    have hi : i < its.toArray.size := by
      have := (List.getElem?_eq_some_iff.mp hu).1
      simpa using this
    refine W.goes i s (fun v s2 => ∃ x H', Inv X pins σ H' s2 ∧ RelV x v ∧ (IteT X.K a).yld i H x H' ∧ StE (N + 1) N a (i + 1) s2.heap ∧ ∀ b ∈ [N + 1, N], H' b = none) E hi ⟨he, hit, p⟩ fun v h' tk hY st2 hk htk => ?_
    obtain ⟨T, t, y, ev, hT, ey, hTup⟩ := hY
    obtain rfl : y = u := by
      have q : its[i]? = some y := by simpa using ey
      rw [hu] at q
      exact (Option.some.inj q).symm
    obtain ⟨q1, q2, _⟩ := st2
    rw [Int.zero_add] at hTup
    have new : ObjOk X.prog X.w (upd H T (.tup [.int (i : Nat), x])) h' T (.tup [.int (i : Nat), x]) := ⟨by show 2 ≤ sizeLine; decide, [.int i t, y], .cons ⟨_, rfl⟩ (.cons ru .nil), hTup⟩
    have I1 : Inv X pins σ (upd H T (.tup [.int (i : Nat), x])) { s with heap := h', toks := tk } := I.turnedNew (t' := tk) (ch := [N + 1, N]) (fun b o hb q => hk b o hb q) hf hT new
    refine ⟨.ref T, _, I1, ev ▸ rfl, ⟨T, x, rfl, I.hok.fresh hT, rfl, fun l hl => by rw [I.tuple_inj hl hq]; exact hx⟩, ⟨q1, q2⟩, fun d hd => ?_⟩
    have hlt : d < s.heap.objs.size := by
      have e2 : d = N + 1 ∨ d = N := by simpa using hd
      obtain ⟨old, he⟩ := he
      rcases e2 with q | q
      · rw [q]; exact Heap.lt_size he
      · rw [q]; obtain ⟨_, e1, _⟩ := hit; exact Heap.lt_size e1
    rw [upd_ne (Nat.ne_of_lt (Nat.lt_of_lt_of_le hlt hT))]
    exact (hf d hd).1
  done := by
    intro X hP hw hK hcm i pins s σ H E I hf st hg
    subst hP hw hK
    obtain ⟨xs, hq, lx⟩ := hg
    obtain ⟨its, rv, p, _⟩ := I.tuple hq
    obtain ⟨he, hit⟩ := st
    have hh : X.A.in1.handled = none := I.ok.hd hcm
    have D := Draws.tuple (prog := X.prog) (w := X.w) hh N a (Nat.ne_of_lt ha) its.toArray
    have W := GoesN.enumFrom (elts := elts) (x1 := kk) (pos := tpos) (A := X.A) 0 D (N + 1) (Nat.succ_ne_self N) (by
      intro z
      have z2 : N + 1 = N ∨ N + 1 = a := by simpa using z
      rcases z2 with y | y
      · exact Nat.succ_ne_self N y
      · exact absurd ha (by rw [← y]; exact Nat.not_lt.mpr (Nat.le_succ N))) (by simp)
    have ei : i = its.toArray.size := by
      have := rv.length
      simp only [List.size_toArray]
      omega
    rw [ei] at he hit
    exact W.stops s (fun s1 => Inv X pins σ H s1) E ⟨he, hit, p⟩ fun h' tk hk _ => I.turnedL (t' := tk) (ch := [N + 1, N]) (fun b o hb q => hk b o hb q) hf
  self := fun A i s Q E st h => let ⟨⟨_, he⟩, _⟩ := st; wpAny_pyIter_enum he h
def iEnumT (K : PySem.W.Frag) (ta : TA) : TI := fun σ H R => ta σ H fun vs H1 => ∃ a xs, vs = [.ref a] ∧ SqT K H1 a xs ∧ R (IteT K a) H1
theorem pi_enumT {X : Cx} {e : Expr} {ta : TA} {p pos tpos : Pos} {elts : List Expr} {kk : Nat} (hg : Gl X "enumerate") (hm : X.mg "enumerate" = none) (ha : PA X [e] ta) (hs : starEach [e] X.env = [(false, eval e X.env)] := by rfl) :
    PI X (.Tuple elts kk tpos) (.Call (.Name "enumerate" p) [e] [] pos) (iEnumT X.K ta) := by
  refine ⟨fun pins s σ H R I h => ?_⟩
  refine Call_ (ld_blt I hg hm boot_enumerate (PyProof.Rows.callWith_type1 (thn (ha.run pos pins s σ H _ I h) fun us s1 ⟨vs, H1, I1, r1, q1⟩ => ?_) hs rfl))
  obtain ⟨a, xs, rfl, hq, q⟩ := q1
  cases r1 with
  | cons r rr =>
    cases rr
    cases r
    obtain ⟨its, rv, pT, _⟩ := I1.tuple hq
    obtain ⟨oa, hoa, _⟩ := id pT
    refine call_enumT (show s1.heap.IsTuple a its.toArray from pT) fun h2 he hit hk => wpAny_pyIter_enum he ?_
    have I2 : Inv X pins σ H1 { s1 with heap := h2 } := I1.kept (t' := s1.toks) hk
    refine ⟨s1.heap.objs.size + 1, [s1.heap.objs.size + 1, s1.heap.objs.size], _, _, H1, rfl, I2, turn_enumT (Heap.lt_size hoa), ⟨⟨.none, he⟩, hit⟩, fun b hb => ?_, q⟩
    have hle : s1.heap.objs.size ≤ b := by
      have e2 : b = s1.heap.objs.size + 1 ∨ b = s1.heap.objs.size := by simpa using hb
      rcases e2 with z | z
      · rw [z]; exact Nat.le_add_right _ _
      · rw [z]; exact Nat.le_refl _
    exact I1.fpOk hle (I1.hok.fresh hle)
end EnT
namespace PL
open PySem PySem.Spec PyProof.Rows L2
variable [Nm]
section
variable {K : PySem.W.Frag} {ρ ρ1 : Rho} {I J L N : Asn} {ta tb tc te : TE} {d e : Dat} {t u : TT} {b c : Bool} {ts us : TS} {k : Out} {tr : TA} {ds : List PyData} {x y : PyData}
theorem s_loopC {α : Type} {wi : TI} {g : TG} {n : Nat} {xs : Nat → PyData} (W : Nat → α → Prop) (P : α → Rho) (V : α → Asn) (a0 : α) (w0 : W 0 a0) (hl : IW K wi ρ I n xs (V a0)) (h0 : ρ = P a0)
    (step : ∀ i a, i < n → W i a → ∃ ρ', GJ K g (xs i) (P a) ρ' ∧ ((∃ a', W (i + 1) a' ∧ (S K ts ρ' (V a) (.nx (P a') (V a')) ∨ S K ts ρ' (V a) (.ct (P a') (V a')))) ∨ (k.ret ∧ S K ts ρ' (V a) k)))
    (done : ∀ a, W n a → S K us (P a) (V a) k) : S K (tSeq (tFor wi g ts) us) ρ I k := fun G H σ D gh en io f => by
  show tFor wi g ts { D with nx := fun σ' H' => us D σ' H' } σ H
  refine hl G H σ gh en io _ fun Ji G1 H1 g1 gh1 j1 wk => ?_
  refine ⟨fun i m σ' H' => m = n - i ∧ i ≤ n ∧ ∃ a G', W i a ∧ Same G1 G' ∧ Same G' H' ∧ EnvD K G' σ' (P a) ∧ (V a).ok G' H', ⟨n, rfl, Nat.zero_le _, a0, G1, w0, Same.refl _, gh1, h0 ▸ env_mono g1 en, j1⟩, fun i m σ' H' hw => ?_⟩
  obtain ⟨rfl, hi, a, G', wa, a1, a2, a3, a4⟩ := hw
  by_cases c : i < n
  · obtain ⟨ρ', hg, hs⟩ := step i a c wa
    rcases hs with ⟨a', wa', hs⟩ | ⟨hk, hs⟩
    · refine .inr ⟨wk.go i G' H' c a1 a2, fun σ2 H2 => ∃ G2, Same G1 G2 ∧ Same G2 H2 ∧ EnvD K G2 σ2 (P a') ∧ (V a').ok G2 H2, fun σ2 H2 ⟨G2, b1, b2, b3, b4⟩ => ⟨n - (i + 1), by omega, rfl, c, a', G2, wa', b1, b2, b3, b4⟩, fun v H2 y => ?_⟩
      obtain ⟨G2, st, dp⟩ := wk.yld i G' H' v H2 c a1 a2 y
      refine hg G2 H2 σ' v _ st.gh (env_mono st.gg a3) dp fun σ2 en2 => ?_
      rcases hs with hs | hs
      · exact hs G2 H2 σ2 _ st.gh en2 (Asn.pure_st st a4) fun G3 H3 σ3 g3 gh3 en3 j3 => ⟨G3, (a1.trans st.gg).trans g3, gh3, en3, j3⟩
      · exact hs G2 H2 σ2 _ st.gh en2 (Asn.pure_st st a4) fun G3 H3 σ3 g3 gh3 en3 j3 => ⟨G3, (a1.trans st.gg).trans g3, gh3, en3, j3⟩
    · refine .inr ⟨wk.go i G' H' c a1 a2, fun _ _ => False, fun _ _ z => z.elim, fun v H2 y => ?_⟩
      obtain ⟨G2, st, dp⟩ := wk.yld i G' H' v H2 c a1 a2 y
      exact hg G2 H2 σ' v _ st.gh (env_mono st.gg a3) dp fun σ2 en2 => hs G2 H2 σ2 _ st.gh en2 (Asn.pure_st st a4) (hk.other (D := D) rfl (((f.mono g1).mono a1).mono st.gg))
  · have e : i = n := by omega
    subst e
    exact .inl ⟨wk.stop G' H' a1 a2, done a wa G' H' σ' D a2 a3 a4 ((f.mono g1).mono a1)⟩
theorem s_loopRC {α β : Type} {wi : TI} {g : TG} {bs : List β} {f : Nat → β → PyData} {xs : Nat → PyData} {n : Nat} (W : Nat → List β → α → Prop) (P : α → Rho) (V : α → Asn) (a0 : α) (w0 : W 0 bs a0) (hl : IW K wi ρ I n xs (V a0)) (hn : n = bs.length) (hx : ∀ i z, bs[i]? = some z → xs i = f i z) (h0 : ρ = P a0)
    (step : ∀ i z rest a, W i (z :: rest) a → ∃ ρ', GJ K g (f i z) (P a) ρ' ∧ ((∃ a', W (i + 1) rest a' ∧ (S K ts ρ' (V a) (.nx (P a') (V a')) ∨ S K ts ρ' (V a) (.ct (P a') (V a')))) ∨ (k.ret ∧ S K ts ρ' (V a) k)))
    (done : ∀ a i, W i [] a → S K us (P a) (V a) k) : S K (tSeq (tFor wi g ts) us) ρ I k := by
  subst hn
  refine s_loopC (fun i a => W i (bs.drop i) a) P V a0 w0 hl h0 (fun i a hi w => ?_) fun a w => ?_
  · have e : bs.drop i = bs[i] :: bs.drop (i + 1) := List.drop_eq_getElem_cons hi
    rw [e] at w
    rw [hx i _ (List.getElem?_eq_getElem hi)]
    exact step i _ _ a w
  · rw [List.drop_of_length_le (Nat.le_refl _)] at w
    exact done a _ w
theorem s_lessC {ρ' ρ'' : Rho} (l : Less ρ' ρ'') (h : S K ts ρ I (.ct ρ' J)) : S K ts ρ I (.ct ρ'' J) := fun G H σ D gh en io f => h G H σ D gh en io fun G2 H2 σ2 g2 gh2 en2 => f G2 H2 σ2 g2 gh2 (env_less l en2)
theorem walk_eT {G : Hp} {a : Addr} {vs : List V} {xs : Nat → PyData} (s : SqT K G a vs) (r : DpAll K G vs ds) (hx : ∀ i, i < ds.length → ds[i]? = some (xs i)) : Walk K (EnT.IteT K a) ds.length (fun i => .tuple [.int (i : Nat), xs i]) G where
  go := fun i G' H hi b1 b2 => by
    have hl : i < vs.length := by rw [dpa_len r]; exact hi
    exact ⟨vs, vs[i], same_t (b1.trans b2) s, List.getElem?_eq_getElem hl⟩
  stop := fun G' H b1 b2 => ⟨vs, same_t (b1.trans b2) s, dpa_len r⟩
  yld := fun i G' H v H2 hi b1 b2 y => by
    obtain ⟨T, x, rfl, hT, rfl, hv⟩ := y
    obtain ⟨v2, h1, h2⟩ := dpa_get r (hx i hi)
    have e := hv vs (same_t (b1.trans b2) s)
    rw [h1] at e
    obtain rfl := Option.some.inj e
    have st := Stp.new (o := HO.tup [.int (i : Nat), v2]) b2 hT
    exact ⟨_, st, .tup (.inl (.inl upd_same)) (.cons (.int _) (.cons (dp_mono (b1.trans st.gg) _ _ h2) .nil))⟩
theorem iw_eT {tl : TA} (h : A K tl ρ I [.t ds] J) : IW K (EnT.iEnumT K tl) ρ I ds.length (fun i => .tuple [.int (i : Nat), at0 ds i]) J := fun G H σ gh en io R r => h G H σ gh en io _ fun vs G1 H1 g1 gh1 j1 dv => by
  obtain ⟨v, rfl, h1⟩ := dva1 dv
  cases h1 with
  | tup s rr => exact ⟨_, _, rfl, same_t gh1 s, r _ G1 H1 g1 gh1 j1 (walk_eT s rr fun i hi => at0_get hi)⟩
end
end PL

/-! sep.join(reversed(a list of texts)) -/
namespace JR
open PySem PySem.Spec PySem.Calls PyProof.Rows
theorem nolen_lri : typeLookup (.type "list_reverseiterator") "__len__" = pure none := by rw [typeLookup_type, builtinLookup_eq_fast]; kernel_rfl
theorem hint_lri : typeLookup (.type "list_reverseiterator") "__length_hint__" = pure (some (.builtin "list_reverseiterator.__length_hint__")) := by rw [typeLookup_type, builtinLookup_eq_fast]; kernel_rfl
section
variable {prog : Program} {w : World} {A : Around} {E : Value → Shared → Prop} {s : Shared} {I : Addr} {fp wr : List Addr} {G : Array GenState → Array GenState → Prop} {n : Nat} {P : Nat → Value → Prop} {St : Nat → Shared → Prop}
theorem collect_rev {Q : List Value → Shared → Prop}
    (W : WalksS prog w A.in1 I fp wr G n P St) (hT : ∀ i s, St i s → s.TypeIs (.ref I) "list_reverseiterator") (hst : St 0 s) (hfp : ∀ b ∈ fp, b < s.heap.objs.size) (hI : I ∈ fp)
    (hQ : ∀ s' acc, Moved wr G s s' → ItemsOf P acc n → Q acc.toList s') (hn : n ≤ sizeLine) : wpAny (model prog w) A (collect (.ref I)) Q E s := by
  have hSf : s.heap.objs.size ∉ fp := fun hm => Nat.lt_irrefl _ (hfp _ hm)
  have hSI : s.heap.objs.size ≠ I := fun e => hSf (e ▸ hI)
  unfold collect
  refine wpAny_bind (wpAny_runValue (codeAny_builtin F.entry_proto_collect ?_))
  rw [Around.under_plainId F.plain_proto_collect _]
  show wpAny _ A.in1 (newList [] >>= fun l => again (.builtin "list.__iadd__" ⟨[l, .ref I], []⟩)) _ _ s
  refine wpAny_bind (wpAny_newObj_type ?_)
  refine wpAny_pure ⟨plainId_quiet F.plain_list_iadd _, codeAny_builtin F.entry_list_iadd ?_⟩
  rw [Around.under_plainId F.plain_list_iadd _]
  have hst₁ := W.frame 0 s (s.heap.push { cls := .type "list", data := .seq ([] : List Value).toArray }) s.toks hst (Nat.le_refl _) fun b _ o e => Heap.get?_push_of_some _ e
  have hS₁ : (s.heap.push { cls := .type "list", data := .seq ([] : List Value).toArray }).get? s.heap.objs.size = some { cls := .type "list", data := .seq ([] : List Value).toArray } := Heap.get?_push_size _ rfl
  have h1 : Builtin.List.listSameRef (.ref s.heap.objs.size) (.ref I) = false := by simp [Builtin.List.listSameRef, hSI]
  show wpAny _ A.in1 (Builtin.List.listExtendWith (.ref s.heap.objs.size) (.ref I) (.ref s.heap.objs.size)) _ _ _
  unfold Builtin.List.listExtendWith
  refine wpAny_bind (wpAny_typeOf (hT 0 _ hst₁) ?_)
  rw [if_neg (by rw [h1]; decide)]
  refine wpAny_bind (W.self 0 _ _ _ hst₁ ?_)
  refine wpAny_bind (wpAny_holding ?_)
  unfold Builtin.List.listLengthHint
  refine wpAny_bind (wpAny_specialOf (hT 0 _ hst₁) nolen_lri ?_)
  show wpAny _ A.in1 (specialOf (Value.ref I) (Str.ofString "__length_hint__") >>= _) _ _ _
  refine wpAny_bind (wpAny_specialOf (hT 0 _ hst₁) hint_lri ?_)
  (generalize hid : ("list_reverseiterator.__length_hint__" : String) = id0; (fail_if_success (clear hid id0)); wp_delta; rw [show splitId id0 = some ("list_reverseiterator", "__length_hint__") from by subst hid; decide +kernel]; subst hid)
  refine wpAny_bind (wpAny_isInstance (b := true) (hT 0 _ hst₁) (by rw [isSubtype_type]; kernel_rfl) ?_)
  refine wpAny_pure ?_
  rw [if_neg (by decide)]
  refine wpAny_pure ⟨plainId_quiet F.plain_extend_loop _, codeAny_extend_loopS W hn _ hSf _ n 0 _ _ _ rfl (Nat.zero_le _) hst₁ hS₁ (ItemsOf.nil P) fun s' acc' c' hm hS' hacc => ?_⟩
  show wpAny _ A (load s.heap.objs.size >>= _) _ _ s'
  refine wpAny_bind (wpAny_load hS' ?_)
  exact wpAny_pure (hQ s' acc' (Moved.drop_new (o := { cls := .type "list", data := .seq ([] : List Value).toArray }) (tk := s.toks) hm (Nat.le_refl _)) hacc)
theorem join_rev {x : Str} {t : Tok} {ys : List Str} {Q : Value → Shared → Prop} (W : WalksS prog w A.in1.in1 I fp wr G n P St) (hT : ∀ i s, St i s → s.TypeIs (.ref I) "list_reverseiterator") (hst : St 0 s)
    (hfp : ∀ b ∈ fp, b < s.heap.objs.size) (hI : I ∈ fp) (hP : ∀ acc : Array Value, ItemsOf P acc n → StrsAre acc.toList ys) (hok : (ys.map (·.length)).sum + ys.length * x.length ≤ 16777216)
    (hq : ∀ s', Moved wr G s s' → ∀ t' k, Q (.str (Txt.join x ys) t') { s' with toks := k }) (hsz : n ≤ sizeLine) :
    wpAny (model prog w) A (call (.builtin "str.join") [.str x t, .ref I]) Q E s := by
  refine wpAny_call (codeAny_call_builtin F.slot_str_join.plain F.entry_str_join (F.slot_str_join.check _ _ _ _ _ _ _ _ (typeIs_str _ _ _) (F.args_str_join_2 _ _) ?_))
  rw [join_tree_other]
  refine wpAny_bind (wpAny_typeOf (hT 0 s hst) ?_)
  show wpAny _ A.in1 ((pyIter (.ref I)).tryCatch _ >>= fun it => collect it >>= fun items => joinTail x items) _ _ s
  refine wpAny_bind (wpAny_tryCatch (W.of_in1.self 0 s _ _ hst ?_))
  refine wpAny_bind (collect_rev W hT hst hfp hI (fun s' acc hm hacc => ?_) hsz)
  obtain ⟨l, hl, ht⟩ := strsAre_values (hP acc hacc)
  subst ht
  rw [hl]
  have hok' := joinOk_of hok
  unfold JoinOk at hok'
  rw [Bool.not_eq_true'] at hok'
  have g : Gives (joinTail x (strValues l)) (joinMade x l) := by
    have g0 := gives_joinTail x l hok'
    cases l with
    | nil => exact g0
    | cons p r => cases r with
      | nil => exact g0
      | cons q r' => exact g0
  exact g prog w A (wants Q E) s' (post_join l ⟨joinFit_length hok', hq s' hm⟩)
end
end JR
namespace L2
open PySem PySem.W PySem.Calls PyProof.Rows PyProof.V PySem.Spec
theorem revs_are {its : List Value} {ys : List Str} (r : Vals (ys.map V.str) its) {acc : Array Value}
    (h : ItemsOf (fun i v => its.toArray[its.toArray.size - 1 - i]? = some v) acc its.toArray.size) : StrsAre acc.toList ys.reverse := by
  obtain ⟨h1, h2⟩ := h
  have hl : its.length = ys.length := by have := r.length; rw [List.length_map] at this; exact this.symm
  have hz : acc.toList.length = ys.reverse.length := by
    rw [List.length_reverse, ← hl, Array.length_toList, h1]
    simp
  have key : ∀ (i : Nat) (v : Value), acc.toList[i]? = some v → ∃ (y : Str) (t : Tok), ys.reverse[i]? = some y ∧ v = .str y t := by
    intro i v hv
    have hi : i < acc.toList.length := (List.getElem?_eq_some_iff.mp hv).1
    have hv' : acc[i]? = some v := by simpa using hv
    have hu := h2 i v hv'
    have e3 : its.toArray.size = its.length := by simp
    rw [e3] at hu
    have hu' : its[its.length - 1 - i]? = some v := by simpa using hu
    rw [hz, List.length_reverse] at hi
    have hj : its.length - 1 - i < ys.length := by omega
    obtain ⟨u2, hu2, rx2⟩ := r.get (i := its.length - 1 - i) (x := V.str ys[its.length - 1 - i]) (by rw [List.getElem?_map, List.getElem?_eq_getElem hj]; rfl)
    have eu : u2 = v := Option.some.inj (hu2.symm.trans hu')
    subst eu
    obtain ⟨t, rfl⟩ := rx2
    refine ⟨_, t, ?_, rfl⟩
    rw [List.getElem?_reverse hi, ← hl]
    exact List.getElem?_eq_getElem hj
  generalize acc.toList = L at hz key
  clear h1 h2 r
  generalize ys.reverse = zs at hz key
  clear hl
  induction L generalizing zs with
  | nil =>
    cases zs with
    | nil => exact .nil
    | cons y r => simp at hz
  | cons v L ih =>
    cases zs with
    | nil => simp at hz
    | cons y zs =>
      obtain ⟨y', t, hy, rfl⟩ := key 0 v rfl
      have ey : y = y' := Option.some.inj hy
      subst ey
      exact .cons y t (ih zs (by simpa using hz) fun i v' hv => key (i + 1) v' (by simpa using hv))
section
variable {X : Cx}
def tJoinRev (K : PySem.W.Frag) (to : TE) (ta : TA) : TE := fun σ H Q => to σ H fun x H1 => (∃ a, x = .str a) ∧ ta σ H1 fun vs H2 => ∃ (a : Str) (q : Addr) (ys : List Str),
  x = .str a ∧ vs = [.ref q] ∧ SqL K H2 q (ys.map V.str) ∧ (ys.map (·.length)).sum + ys.length * a.length ≤ 16777216 ∧ Q (.str (Txt.join a ys.reverse)) H2
theorem pe_joinRev {o e : Expr} {to : TE} {ta : TA} {apos pos p pos2 : Pos} (hc : X.calm = true) (ho : PE X o to) (hg : Gl X "reversed") (hm : X.mg "reversed" = none) (ha : PA X [e] ta)
    (hs1 : starEach [.Call (.Name "reversed" p) [e] [] pos2] X.env = [(false, eval (.Call (.Name "reversed" p) [e] [] pos2) X.env)] := by rfl)
    (hs : starEach [e] X.env = [(false, eval e X.env)] := by rfl)
    (hbase : attributeBase o "join" X.env (eval o X.env) = eval o X.env := by rfl) (hline : (apos.endLine == pos.line) = true := by rfl) :
    PE X (.Call (.Attribute o "join" apos) [.Call (.Name "reversed" p) [e] [] pos2] [] pos) (tJoinRev X.K to ta) := by
  refine ⟨fun pins s σ H Q I h => ?_⟩
  refine PySem.Call_method1 hbase hs1 hline (thn (ho.run pins s σ H _ I h) fun v s1 ⟨x, H1, I1, r1, q1⟩ => ?_)
  obtain ⟨⟨a, rfl⟩, q1⟩ := q1
  obtain ⟨t, rfl⟩ := _root_.id r1
  refine ⟨"str", _, F.plainAttrs_str, F.slot_str_join, F.type_str_join, typeIs_str _ _ _, (fun _ e => nomatch e), Calls.callWith_builtin rfl (Calls.evalArgs_plain (Calls.spliced_cons ?_))⟩
  refine Call_ (ld_blt I1 hg hm PyProof.Rows.boot_reversed (PyProof.Rows.callWith_type1 (thn (ha.run pos2 pins s1 σ H1 _ I1 q1) fun us s3 ⟨vs, H2, I3, r3, q3⟩ => ?_) hs rfl))
  obtain ⟨a', q, ys, ea, rfl, hq, hz, q3⟩ := q3
  cases ea
  cases r3 with
  | cons r rr =>
    cases rr
    cases r
    obtain ⟨its, rv, pl, hsz⟩ := I3.list hq
    have hl := pl.isList
    have hlt : q < s3.heap.objs.size := by obtain ⟨ob, hob, _⟩ := hl; exact Heap.lt_size hob
    refine call_reversed_list hl (Calls.spliced_nil ?_)
    have hh1 : X.A.in1.in1.handled = none := I3.ok.hd hc
    have W := (Walks.listRev (prog := X.prog) (w := X.w) (A := X.A.in1.in1) hh1 s3.heap.objs.size q (Nat.ne_of_lt hlt) its.toArray).toS
    refine JR.join_rev (ys := ys.reverse) W (fun i s' st => st.2.1.typeIs) ⟨Nat.zero_le _, ?_, hl.push _⟩ (fun b hb => ?_) (by simp) (fun acc hacc => revs_are rv hacc) ?_ (fun s' hm t' k => ?_) ?_
    · have e1 : ((its.toArray.size : Nat) : Int) - 1 - ((0 : Nat) : Int) = ((its.toArray.size : Nat) : Int) - 1 := by omega
      rw [e1]
      exact ⟨_, Heap.get?_push_size _ rfl, rfl, rfl⟩
    · show b < (s3.heap.push _).objs.size
      rw [Heap.size_push]
      rcases List.mem_cons.mp hb with rfl | hb
      · exact Nat.lt_succ_self _
      · rw [List.mem_singleton.mp hb]
        exact Nat.lt_succ_of_lt hlt
    · rw [List.map_reverse, List.sum_reverse, List.length_reverse]
      exact hz
    · rw [Moved.eq_with hm]
      exact ⟨.str _, H2, I3.kept (t' := k) fun b ob e => hm.heap b ob (fun hmem => Nat.lt_irrefl _ (by have := Heap.lt_size e; rw [List.mem_singleton.mp hmem] at this; exact this)) (Heap.get?_push_of_some _ e), ⟨t', rfl⟩, q3⟩
    · rw [List.size_toArray, ← rv.length]
      exact hsz
end
end L2

/-! int(a text of more than 640 signs) -/
namespace PySem.W
open PySem PySem.Calls PySem.NumText PyProof.Rows
namespace KIN
theorem limit_at {M : Model} {A : Around} {E : Value → Shared → Prop} {s : Shared} {Q : Nat → Shared → Prop} (hn : s.heap.NoDigits) (h : Q 4300 s) : wpAny M A Builtin.intMaxStrDigits Q E s := by
  obtain ⟨mc, hns, hnone⟩ := hn
  unfold Builtin.intMaxStrDigits
  refine wpAny_bind (wpAny_nsGet hns ?_)
  rw [hnone]
  exact wpAny_pure h
theorem wp_textL {M : Model} {A : Around} {E : Value → Shared → Prop} {s : Shared} {Q : Value → Shared → Prop} {v : Value} {text : List Nat} {n : Int} (hn : s.heap.NoDigits)
    (hs : ¬ (text.takeWhile (· != 0)).length ≤ 640) (hr : (int_private% "readNumeral") 4300 10 (text.takeWhile (· != 0)) = (int_private% "Numeral.value") n)
    (ha : ((text.takeWhile (· != 0)).length == text.length) = true) (h : Q (.int n s.toks) { s with toks := s.toks + 1 }) :
    wpAny M A ((int_private% "intFromText") v text 10) Q E s := by
  obtain ⟨hp, g, d, tk, os⟩ := s
  repeat (any_goals (first
    | assumption
    | (with_reducible refine wpAny_ite_false (decide_eq_false hs) ?_)
    | (with_reducible refine limit_at hn ?_)
    | (with_reducible refine wpAny_ite_true (decide_eq_true ha) ?_)
    | wp_step))
  all_goals (try rw [hr])
  all_goals (try dsimp only)
  repeat (any_goals (first
    | assumption
    | (with_reducible refine wpAny_ite_false (decide_eq_false hs) ?_)
    | (with_reducible refine limit_at hn ?_)
    | (with_reducible refine wpAny_ite_true (decide_eq_true ha) ?_)
    | wp_step))
set_option maxHeartbeats 4000000 in
theorem meets_textL {x : PySem.Str} {u : Tok} {n : Int} (hl : ¬ (numSeenOf x).length ≤ 640) (hx : x.length ≤ sizeLine) (hn : PySem.intText? x = some n) : Meets (Builtin.«int.__new__» ⟨[.type "int", .str x u], []⟩) (fun _ R s => s.heap.NoDigits ∧ R (.ok (.ret (.int n s.toks))) { s with toks := s.toks + 1 }) :=
  fun prog w A R s hR => by
    obtain ⟨hd, h⟩ := hR
    obtain ⟨hp, g, d, tk, os⟩ := s
    have f1 := F.conv_sub_int
    have f2 := F.madeHere_int
    have f3 := str_int
    have f4 := str_idx
    have f5 := str_trunc
    have f6 : typeOf (.str x u) = pure (.type "str") := rfl
    have hr : (int_private% "readNumeral") 4300 10 (numSeenOf x) = (int_private% "Numeral.value") n ∧ ((numSeenOf x).length == (numTextOf x).length) = true := by
      rcases read4300 x hx with ⟨m, h1, h2, h3⟩ | ⟨h1, _⟩
      · rw [hn] at h1
        injection h1 with h1
        subst h1
        exact ⟨h3, h2⟩
      · rw [hn] at h1
        cases h1
    have hk := Hid.mk (And.intro hl hr)
    clear hr hl hn
    repeat (any_goals (first
      | assumption
      | ((with_reducible show wpAny _ _ ((int_private% "intFromText") _ _ _) _ _ _); refine wp_textL hd hk.out.1 hk.out.2.1 hk.out.2.2 ?_)
      | wp_step))
theorem call_textL {prog : Program} {w : World} {A : Around} {E : Value → Shared → Prop} {s : Shared} {Q : Value → Shared → Prop} {x : PySem.Str} {t : Tok} {n : Int} (hd : s.heap.NoDigits) (hn : PySem.intText? x = some n) (hl : ¬ (numSeenOf x).length ≤ 640) (hx : x.length ≤ sizeLine) (h : Q (.int n s.toks) { s with toks := s.toks + 1 }) : wpAny (model prog w) A (call (.type "int") [.str x t]) Q E s :=
  call_int_1 (meets_textL hl hx hn) ⟨hd, rfl, h⟩
end KIN
end PySem.W
namespace L2
open PySem PySem.Spec PyProof.Rows
section
variable {X : Cx}
def rIntS : List V → Hp → VK → Prop := fun xs H Q => ∃ (a : Str) (n : Int), xs = [.str a] ∧ PySem.intText? a = some n ∧ (a.length ≤ 640 ∨ ¬ (PySem.numSeenOf a).length ≤ 640) ∧ a.length ≤ sizeLine ∧ Q (.int n) H
/-- int(text), of any length -/
theorem call_int_any (hz : PySem.W.nsIn X.K cStatics "sys.int_max_str_digits" = some none) : CallR X (.type "int") rIntS := by
  intro pins s σ H xs us Q I rs h
  obtain ⟨a, n, rfl, hn, hl, hx, h⟩ := h
  cases rs with
  | cons r1 rs =>
    cases rs
    obtain ⟨t, rfl⟩ := r1
    rcases hl with hl | hl
    · exact PySem.W.KIN.call_text hn hl ⟨.int n, H, I.tok _, ⟨_, rfl⟩, h⟩
    · obtain ⟨mc, hns, _⟩ := I.nolimit
      exact PySem.W.KIN.call_textL ⟨mc, hns, PySem.W.ns_none_of I.kIn hns hz⟩ hn hl hx ⟨.int n, H, I.tok _, ⟨_, rfl⟩, h⟩
end
end L2

/-! texts: figures, parts, slices, signs -/
namespace L2
open PySem PySem.Spec PyProof.Rows
section
variable {X : Cx}
def rMulS : R2 := fun x y H Q => ∃ (a : Str) (i : Int), x = .str a ∧ y = .int i ∧ MulOk a i ∧ Q (.str (Txt.mul a i)) H
theorem op_mulS : OpR X (binaryOp .Mult) rMulS := by
  intro pins s σ H x y v u Q I rx ry h
  obtain ⟨a, i, rfl, rfl, ok, q⟩ := h
  obtain ⟨t, rfl⟩ := rx
  obtain ⟨t', rfl⟩ := ry
  exact PySem.SB.mul ok fun t2 k => ⟨.str _, H, I.tok k, ⟨t2, rfl⟩, q⟩
end
end L2
namespace PL
open PySem PySem.Spec PyProof.Rows L2
variable [Nm]
section
variable {K : PySem.W.Frag} {ρ : Rho} {I J L N : Asn} {ta tb tc te to : TE} {tr : TA} {x y : PyData} {ts : TS} {k : Out} {q : Addr} {ds es : List PyData}
theorem dps_str : ∀ (ys : List Str) {G : Hp}, DpAll K G (ys.map V.str) (ys.map PyData.str)
  | [], _ => .nil
  | y :: ys, _ => .cons (.str y) (dps_str ys)
theorem dps_str' : ∀ {ys : List Str} {G : Hp} {vs : List V}, DpAll K G vs (ys.map PyData.str) → vs = ys.map V.str
  | [], _, _, h => by cases h; rfl
  | y :: ys, _, _, h => by
    cases h with
    | cons a b =>
      cases a
      rw [dps_str' b]
      rfl
/-- str(n) -/
theorem e_strI {i : Int} (hr : A K tr ρ I [.i i] J) (h : i.natAbs.log2 < 1920) : E K (tCB (fun xs H Q => ∃ i, xs = [.int i] ∧ i.natAbs.log2 < 1920 ∧ Q (.str (toString i)) H) tr) ρ I (.d (.str (toString i))) J :=
  e_cb hr fun G H vs gh lo dv Q q => by
    obtain ⟨v, rfl, dw⟩ := dva1 dv
    obtain rfl := dv_int dw
    exact ⟨i, rfl, h, q _ G H (Same.refl _) gh lo (.str _)⟩
/-- int(text) -/
theorem e_intS {a : Str} {n : Int} (hr : A K tr ρ I [.d (.str a)] J) (h : PySem.intText? a = some n) (hl : a.length ≤ 640) : E K (tCB (fun xs H Q => ∃ a n, xs = [.str a] ∧ PySem.intText? a = some n ∧ a.length ≤ 640 ∧ Q (.int n) H) tr) ρ I (.i n) J :=
  e_cb hr fun G H vs gh lo dv Q q => by
    obtain ⟨v, rfl, dw⟩ := dva1 dv
    obtain rfl := dv_str dw
    exact ⟨a, n, rfl, h, hl, q _ G H (Same.refl _) gh lo (.int _)⟩
theorem e_intA {a : Str} {n : Int} (hr : A K tr ρ I [.d (.str a)] J) (h : PySem.intText? a = some n) (hl : a.length ≤ 640 ∨ ¬ (PySem.numSeenOf a).length ≤ 640) (hz : a.length ≤ 100000) : E K (tCB rIntS tr) ρ I (.i n) J :=
  e_cb hr fun G H vs gh lo dv Q q => by
    obtain ⟨v, rfl, dw⟩ := dva1 dv
    obtain rfl := dv_str dw
    exact ⟨a, n, rfl, h, hl, Nat.le_trans hz (by rw [sizeLine_eq]; decide), q _ G H (Same.refl _) gh lo (.int _)⟩
/-- divmod -/
theorem e_divmod {i j : Int} (hr : A K tr ρ I [.i i, .i j] J) (h : CDivP i j) : E K (tCB (fun xs H Q => ∃ i j, xs = [.int i, .int j] ∧ CDivP i j ∧ ∀ p, H p = none → Q (.ref p) (upd H p (.tup [.int (i / j), .int (i % j)]))) tr) ρ I (.t [.int (i / j), .int (i % j)]) J :=
  e_cb hr fun G H vs gh lo dv Q q => by
    obtain ⟨v, w, rfl, d1, d2⟩ := dva2 dv
    obtain rfl := dv_int d1
    obtain rfl := dv_int d2
    refine ⟨i, j, rfl, h, fun p hp => ?_⟩
    have st := Stp.new (o := .tup [.int (i / j), .int (i % j)]) gh hp
    exact q _ _ _ st.gg st.gh (Asn.pure_st st lo) (.tup (.inl (.inl upd_same)) (.cons (.int _) (.cons (.int _) .nil)))
/-- a text's method of one argument -/
theorem e_m1 {r : V → List V → Hp → VK → Prop} {a : Str} {e d : Dat} (ho : E K to ρ I (.d (.str a)) J) (he : E K te ρ J e L)
    (hr : ∀ G H v, Same G H → L.ok G H → Dv K G v e → ∀ Q : VK, (∀ w G2 H2, Same G G2 → Same G2 H2 → L.ok G2 H2 → Dv K G2 w d → Q w H2) → r (.str a) [v] H Q) : E K (tM1 r to te) ρ I d L :=
  fun G H σ gh en io Q q => ho G H σ gh en io _ fun x G1 H1 g1 gh1 j1 dx => by
    obtain rfl := dv_str dx
    exact ⟨⟨a, rfl⟩, he G1 H1 σ gh1 (env_mono g1 en) j1 _ fun y G2 H2 g2 gh2 j2 dy => hr G2 H2 y gh2 j2 dy Q fun w G3 H3 g3 => q w G3 H3 ((g1.trans g2).trans g3)⟩
theorem e_rempre {a b : Str} (ho : E K to ρ I (.d (.str a)) J) (he : E K te ρ J (.d (.str b)) L) (hl : a.length ≤ 100000) : E K (tM1 (fun x xs H Q => ∃ a b, x = .str a ∧ xs = [.str b] ∧ a.length ≤ sizeLine ∧ Q (.str (Txt.removeprefix a b)) H) to te) ρ I (.d (.str (Txt.removeprefix a b))) L :=
  e_m1 ho he fun G H v gh lo dv Q q => by
    obtain rfl := dv_str dv
    exact ⟨a, b, rfl, rfl, Nat.le_trans hl (by rw [sizeLine_eq]; decide), q _ G H (Same.refl _) gh lo (.str _)⟩
theorem e_zfill {a : Str} {i : Int} (ho : E K to ρ I (.d (.str a)) J) (he : E K te ρ J (.i i) L) (hl : PadOk i = true) : E K (tM1 (fun x xs H Q => ∃ (a : Str) (i : Int), x = .str a ∧ xs = [.int i] ∧ PadOk i = true ∧ Q (.str (Txt.zfill a i)) H) to te) ρ I (.d (.str (Txt.zfill a i))) L :=
  e_m1 ho he fun G H v gh lo dv Q q => by
    obtain rfl := dv_int dv
    exact ⟨a, i, rfl, rfl, hl, q _ G H (Same.refl _) gh lo (.str _)⟩
theorem e_splitS {a b : Str} (ho : E K to ρ I (.d (.str a)) J) (he : E K te ρ J (.d (.str b)) L) (hb : (b.length == 0) = false) (hl : a.length ≤ 100000) : E K (tM1 (fun x xs H Q => ∃ a b, x = .str a ∧ xs = [.str b] ∧ (b.length == 0) = false ∧ a.length + 2 ≤ sizeLine ∧ rNewStrs (Txt.split a b) H Q) to te) ρ I (.l ((Txt.split a b).map PyData.str)) L :=
  e_m1 ho he fun G H v gh lo dv Q q => by
    obtain rfl := dv_str dv
    refine ⟨a, b, rfl, rfl, hb, Nat.le_trans (Nat.add_le_add_right hl 2) (by rw [sizeLine_eq]; decide), fun p hp => ?_⟩
    have st := Stp.new (o := .lst ((Txt.split a b).map V.str)) gh hp
    exact q _ _ _ st.gg st.gh (Asn.pure_st st lo) ⟨p, _, rfl, upd_same, dps_str _⟩
theorem e_partS {a b : Str} (ho : E K to ρ I (.d (.str a)) J) (he : E K te ρ J (.d (.str b)) L) (hb : (b.length == 0) = false) (hl : a.length ≤ 100000) : E K (tM1 (fun x xs H Q => ∃ a b, x = .str a ∧ xs = [.str b] ∧ (b.length == 0) = false ∧ a.length ≤ sizeLine ∧
      ∀ p, H p = none → Q (.ref p) (upd H p (.tup [.str (Txt.partition a b).1, .str (Txt.partition a b).2.1, .str (Txt.partition a b).2.2]))) to te) ρ I (.t [.str (Txt.partition a b).1, .str (Txt.partition a b).2.1, .str (Txt.partition a b).2.2]) L :=
  e_m1 ho he fun G H v gh lo dv Q q => by
    obtain rfl := dv_str dv
    refine ⟨a, b, rfl, rfl, hb, Nat.le_trans hl (by rw [sizeLine_eq]; decide), fun p hp => ?_⟩
    have st := Stp.new (o := .tup [.str (Txt.partition a b).1, .str (Txt.partition a b).2.1, .str (Txt.partition a b).2.2]) gh hp
    exact q _ _ _ st.gg st.gh (Asn.pure_st st lo) (.tup (.inl (.inl upd_same)) (.cons (.str _) (.cons (.str _) (.cons (.str _) .nil))))
/-- len(text) -/
theorem e_lenS {a : Str} (hr : A K tr ρ I [.d (.str a)] J) (hl : a.length ≤ 100000) : E K (tCB (fun xs H Q => ∃ z : Str, xs = [.str z] ∧ z.length ≤ sizeLine ∧ Q (.int z.length) H) tr) ρ I (.i (a.length : Nat)) J :=
  e_cb hr fun G H vs gh lo dv Q q => by
    obtain ⟨v, rfl, dw⟩ := dva1 dv
    obtain rfl := dv_str dw
    exact ⟨a, rfl, Nat.le_trans hl (by rw [sizeLine_eq]; decide), q _ G H (Same.refl _) gh lo (.int _)⟩
/-- text[i] -/
theorem e_ixS {a : Str} {i : Int} {c : Nat} (ha : E K ta ρ I (.d (.str a)) J) (hb : E K tb ρ J (.i i) L) (hl : a.length ≤ 100000) (h : atI a.cps.toList i = some c) : E K (tOp rIxS ta tb) ρ I (.d (.str ⟨#[c]⟩)) L :=
  e_op ha hb fun G H v w gh lo dx dy Q q => by
    obtain rfl := dv_str dx
    obtain rfl := dv_int dy
    exact ⟨a, i, c, rfl, rfl, Nat.le_trans hl (by rw [sizeLine_eq]; decide), h, q _ G H (Same.refl _) gh lo (.str _)⟩
/-- c in text -/
theorem e_inSg {c : Nat} {z : Str} (ha : E K ta ρ I (.d (.str ⟨#[c]⟩)) J) (hb : E K tb ρ J (.d (.str z)) L) : E K (tOp (fun x y H Q => ∃ (c : Nat) (z : Str), x = .str ⟨#[c]⟩ ∧ y = .str z ∧ Q (.bl (decide (c ∈ z.cps.toList))) H) ta tb) ρ I (.b (decide (c ∈ z.cps.toList))) L :=
  e_op ha hb fun G H v w gh lo dx dy Q q => by
    obtain rfl := dv_str dx
    obtain rfl := dv_str dy
    exact ⟨c, z, rfl, rfl, q _ G H (Same.refl _) gh lo (.bl _)⟩
/-- text[:j], text[j:] -/
theorem e_cutTo {z : Str} {i : Int} (ha : E K ta ρ I (.d (.str z)) J) (hb : E K tb ρ J (.i i) L) (hl : z.length ≤ 100000) : E K (tSl rSlS ta tNoPart (tPart tb)) ρ I (.d (.str (cutS z none (some i)))) L := fun G H σ gh en io Q q =>
  ha G H σ gh en io _ fun v G1 H1 g1 gh1 j1 dv => hb G1 H1 σ gh1 (env_mono g1 en) j1 _ fun w G2 H2 g2 gh2 j2 dw => by
    obtain rfl := dv_str dv
    obtain rfl := dv_int dw
    exact ⟨_, rfl, z, rfl, Nat.le_trans hl (by rw [sizeLine_eq]; decide), q _ G2 H2 (g1.trans g2) gh2 j2 (.str _)⟩
theorem e_cutFrom {z : Str} {i : Int} (ha : E K ta ρ I (.d (.str z)) J) (hb : E K tb ρ J (.i i) L) (hl : z.length ≤ 100000) : E K (tSl rSlS ta (tPart tb) tNoPart) ρ I (.d (.str (cutS z (some i) none))) L := fun G H σ gh en io Q q =>
  ha G H σ gh en io _ fun v G1 H1 g1 gh1 j1 dv => hb G1 H1 σ gh1 (env_mono g1 en) j1 _ fun w G2 H2 g2 gh2 j2 dw => by
    obtain rfl := dv_str dv
    obtain rfl := dv_int dw
    exact ⟨_, rfl, z, rfl, Nat.le_trans hl (by rw [sizeLine_eq]; decide), q _ G2 H2 (g1.trans g2) gh2 j2 (.str _)⟩
/-- the signs of a text -/
theorem walk_s {G : Hp} {z : Str} : Walk K (Its z) z.cps.toList.length (fun i => .str ⟨#[z.cps.toList.getD i 0]⟩) G := by
  have e : z.cps.toList.length = z.cps.size := Array.length_toList
  refine ⟨fun i _ _ hi _ _ => by show i < z.cps.size; omega, fun _ _ _ _ => by show z.cps.size ≤ _; omega, fun i G2 H v H' hi a1 a2 y => ?_⟩
  obtain ⟨rfl, c, hc, rfl⟩ := y
  refine ⟨G2, Stp.refl a2, ?_⟩
  have : z.cps.toList.getD i 0 = c := by
    rw [List.getD_eq_getElem?_getD, Array.getElem?_toList, hc]
    rfl
  rw [this]
  exact .str _
theorem iw_s {z : Str} (h : E K te ρ I (.d (.str z)) J) : IW K (iStr te) ρ I z.cps.toList.length (fun i => .str ⟨#[z.cps.toList.getD i 0]⟩) J := fun G H σ gh en io R r => h G H σ gh en io _ fun v G1 H1 g1 gh1 j1 dv => by
  obtain rfl := dv_str dv
  exact ⟨z, rfl, r _ G1 H1 g1 gh1 j1 walk_s⟩
/-- sep.join(a list of texts) -/
theorem e_joinL {a : Str} {ys : List Str} (ho : E K to ρ I (.d (.str a)) J) (he : E K te ρ J (.d (.list (ys.map PyData.str))) L) (hl : (ys.map (·.length)).sum + ys.length * a.length ≤ 1000000) : E K (tM1 (fun x xs H Q => ∃ a p, ∃ ys : List Str, x = .str a ∧ xs = [.ref p] ∧ (SqL K H p (ys.map V.str) ∨ SqT K H p (ys.map V.str)) ∧
      (ys.map (·.length)).sum + ys.length * a.length ≤ 16777216 ∧ Q (.str (Txt.join a ys)) H) to te) ρ I (.d (.str (Txt.join a ys))) L :=
  e_m1 ho he fun G H v gh lo dv Q q => by
    cases dv with
    | lst s r =>
      obtain rfl := dps_str' r
      exact ⟨a, _, ys, rfl, rfl, .inl (gh.seq s), Nat.le_trans hl (by decide), q _ G H (Same.refl _) gh lo (.str _)⟩
/-- sep.join(reversed(a list of texts)) -/
theorem e_joinR {a : Str} {ys : List Str} (ho : E K to ρ I (.d (.str a)) J) (hr : A K tr ρ J [.d (.list (ys.map PyData.str))] L) (hl : (ys.map (·.length)).sum + ys.length * a.length ≤ 1000000) : E K (tJoinRev K to tr) ρ I (.d (.str (Txt.join a ys.reverse))) L :=
  fun G H σ gh en io Q q => ho G H σ gh en io _ fun x G1 H1 g1 gh1 j1 dx => by
    obtain rfl := dv_str dx
    refine ⟨⟨a, rfl⟩, hr G1 H1 σ gh1 (env_mono g1 en) j1 _ fun vs G2 H2 g2 gh2 j2 dv => ?_⟩
    obtain ⟨v, rfl, dw⟩ := dva1 dv
    cases dw with
    | lst s r =>
      obtain rfl := dps_str' r
      exact ⟨a, _, ys, rfl, rfl, gh2.seq s, Nat.le_trans hl (by decide), q _ G2 H2 (g1.trans g2) gh2 j2 (.str _)⟩
theorem e_mulS {a : Str} {i : Int} (ha : E K ta ρ I (.d (.str a)) J) (hb : E K tb ρ J (.i i) L) (ok : MulOk a i) : E K (tOp rMulS ta tb) ρ I (.d (.str (Txt.mul a i))) L :=
  e_op ha hb fun G H v w gh lo dx dy Q q => by
    obtain rfl := dv_str dx
    obtain rfl := dv_int dy
    exact ⟨a, i, rfl, rfl, ok, q _ G H (Same.refl _) gh lo (.str _)⟩
end
end PL

/-! all(..), any(..) of a generator expression over the signs of a text -/
namespace PL
open PySem PySem.Spec PyProof.Rows L2 GX
variable [Nm]
section
variable {K : PySem.W.Frag} {ρ : Rho} {I J : Asn} {P : Addr} {pol : Bool} {g : TG} {tt : TT} {te : TE} {vs : List Nat} {ks : List (Bool × Bool)}
theorem dps_signs : ∀ (cs : List Nat) {G : Hp}, DpAll K G (cs.map fun c => V.str ⟨#[c]⟩) (cs.map fun c => PyData.str ⟨#[c]⟩)
  | [], _ => .nil
  | c :: cs, _ => .cons (.str _) (dps_signs cs)
theorem e_genS {tl : TE} {z : Str} {T' : Tbs} [hT : HasT T' I] (hP : P ∈ T'.gs) (hl : E K tl ρ I (.d (.str z)) I) (hks : ks.length = (z.cps.toList.map fun c => PyData.str ⟨#[c]⟩).length)
    (he : ∀ (i : Nat) (x : PyData) (p : Bool × Bool), (z.cps.toList.map fun c => PyData.str ⟨#[c]⟩)[i]? = some x → ks[i]? = some p → ∃ ρ', GW K g vs x (wipeR ρ vs) ρ' ∧ T K tt ρ' I p.1 I ∧ (p.1 = true → E K te ρ' I (.b p.2) I)) :
    E K (tGen pol P (iStr tl) g tt te vs) ρ I (.b (genB pol ks)) I := fun G H σ gh en io Q q => hl G H σ gh en io _ fun v G1 H1 g1 gh1 j1 dv => by
  obtain rfl := dv_str dv
  have r : DpAll K G1 (z.cps.toList.map fun c => V.str ⟨#[c]⟩) (z.cps.toList.map fun c => PyData.str ⟨#[c]⟩) := dps_signs _
  have el : (z.cps.toList.map fun c => PyData.str ⟨#[c]⟩).length = z.cps.size := by rw [List.length_map]; exact Array.length_toList
  refine ⟨z, rfl, tabG_of hP (hT.get _ _ j1) gh1, fun H2 zz => ?_⟩
  have st := tab_step hP (hT.get _ _ j1) gh1 zz
  refine ⟨_, ⟨(z.cps.toList.map fun c => PyData.str ⟨#[c]⟩).length, rfl, Nat.zero_le _, ⟨G1, Same.refl _, st.gh, Asn.pure_st st j1⟩, fun p hp => by simp at hp⟩, word_of hks rfl r (env_wipe (env_mono g1 en) vs) (wipe_wipe σ vs) (fun i G' H' hi b1 b2 => ?_) (fun G' H' b1 b2 => ?_) (fun i G' H' x H'' b1 b2 y => ?_) he (fun G' H' b1 b2 b3 e => ?_) (fun G' H' b1 b2 b3 e => ?_)⟩
  · show i < z.cps.size
    omega
  · show z.cps.size ≤ _
    omega
  · obtain ⟨y1, c, y2, y3⟩ := y
    refine ⟨y1, ?_⟩
    rw [List.getElem?_map, Array.getElem?_toList, y2, y3]
    rfl
  · exact q _ G' H' (g1.trans b1) b2 b3 (by rw [e]; exact .bl pol)
  · exact q _ G' H' (g1.trans b1) b2 b3 (by rw [e]; exact .bl (!pol))
end
end PL

/-! figures: texts of whole numbers in tens -/
namespace TD
open PySem PySem.NumText PySem.W PySem.W.KIN
/-- the figures of n -/
def dg (n : Nat) : List Nat := (Nat.toDigits 10 n).map Char.toNat
def IsDec (l : List Nat) : Prop := l ≠ [] ∧ AllDigits l ∧ (l.head? = some 48 → l = [48])
theorem dg_val (n : Nat) : digitsVal (dg n) = n := val_back n
theorem dg_small {n : Nat} (h : n < 10) : dg n = [48 + n] := by
  unfold dg
  rw [Nat.toDigits_of_lt_base h]
  revert n
  decide
theorem dg_snoc {n : Nat} (h : 10 ≤ n) : dg n = dg (n / 10) ++ [48 + n % 10] := by
  have hm : n % 10 < 10 := Nat.mod_lt n (by decide)
  have t : Nat.toDigits 10 (n / 10) ++ Nat.toDigits 10 (n % 10) = Nat.toDigits 10 (10 * (n / 10) + n % 10) := Nat.toDigits_append_toDigits (by decide) (by omega) hm
  rw [Nat.div_add_mod] at t
  have e := dg_small hm
  unfold dg at e ⊢
  rw [← t, List.map_append, e]
theorem dg_ne (n : Nat) : dg n ≠ [] := by
  by_cases h : n < 10
  · rw [dg_small h]; exact List.cons_ne_nil _ _
  · rw [dg_snoc (by omega)]; simp
theorem dg_all (n : Nat) : AllDigits (dg n) := by
  induction n using Nat.strongRecOn with
  | _ n ih =>
    by_cases h : n < 10
    · rw [dg_small h]
      intro c hc
      rw [List.mem_singleton.mp hc]
      omega
    · rw [dg_snoc (by omega)]
      intro c hc
      rcases List.mem_append.mp hc with hc | hc
      · exact ih (n / 10) (by omega) c hc
      · rw [List.mem_singleton.mp hc]
        omega
theorem dg_head (n : Nat) : (dg n).head? = some 48 → dg n = [48] := by
  induction n using Nat.strongRecOn with
  | _ n ih =>
    by_cases h : n < 10
    · rw [dg_small h]
      intro e
      have e2 : 48 + n = 48 := Option.some.inj e
      rw [e2]
    · rw [dg_snoc (by omega)]
      intro e
      have hne := dg_ne (n / 10)
      have e2 : (dg (n / 10)).head? = some 48 := by
        cases hd : dg (n / 10) with
        | nil => exact absurd hd hne
        | cons a l => rw [hd] at e; exact e
      have e3 := ih (n / 10) (by omega) e2
      have e4 := dg_val (n / 10)
      rw [e3] at e4
      have e5 : n / 10 = 0 := e4.symm
      omega
theorem dg_dec (n : Nat) : IsDec (dg n) := ⟨dg_ne n, dg_all n, dg_head n⟩
theorem val_snoc (l : List Nat) (c : Nat) : digitsVal (l ++ [c]) = digitsVal l * 10 + (c - 48) := digitsVal_snoc l c
theorem val_head {c : Nat} {l : List Nat} (h : 49 ≤ c) : 0 < digitsVal (c :: l) := digitsVal_pos h
theorem val_dg {l : List Nat} (h : IsDec l) : dg (digitsVal l) = l := by
  obtain ⟨h1, h2, h3⟩ := h
  revert h1 h2 h3
  suffices key : ∀ (k : Nat) (l : List Nat), l.length = k → l ≠ [] → AllDigits l → (l.head? = some 48 → l = [48]) → dg (digitsVal l) = l from key l.length l rfl
  intro k
  induction k using Nat.strongRecOn with
  | _ k ih =>
    intro l hk h1 h2 h3
    rcases List.eq_nil_or_concat l with rfl | ⟨m, c, rfl⟩
    · exact absurd rfl h1
    rw [List.concat_eq_append] at *
    have hc := h2 c (List.mem_append_right _ List.mem_cons_self)
    rw [val_snoc]
    by_cases hm : m = []
    · subst hm
      have e : digitsVal [] * 10 + (c - 48) = c - 48 := by show 0 * 10 + (c - 48) = _; omega
      rw [e, dg_small (by omega), show 48 + (c - 48) = c by omega]
      rfl
    · have hh : m.head? ≠ some 48 := fun e => by
        have e2 : (m ++ [c]).head? = some 48 := by
          cases m with
          | nil => exact absurd rfl hm
          | cons a l => exact e
        have e3 := congrArg List.length (h3 e2)
        rw [List.length_append] at e3
        cases m with
        | nil => exact hm rfl
        | cons a l => simp at e3
      have ha : AllDigits m := fun d hd => h2 d (List.mem_append_left _ hd)
      have hlt : m.length < k := by rw [← hk, List.length_append]; simp
      have e := ih m.length hlt m rfl hm ha fun z => absurd z hh
      have pos : 0 < digitsVal m := by
        cases m with
        | nil => exact absurd rfl hm
        | cons a l =>
          have := ha a List.mem_cons_self
          refine val_head ?_
          have : a ≠ 48 := fun z => hh (by rw [z]; rfl)
          omega
      rw [dg_snoc (by omega), show (digitsVal m * 10 + (c - 48)) / 10 = digitsVal m by omega, e, show 48 + (digitsVal m * 10 + (c - 48)) % 10 = c by omega]
/-- chunks of k figures -/
theorem dg_split (k : Nat) : ∀ (n : Nat), 10 ^ k ≤ n → dg n = dg (n / 10 ^ k) ++ (List.replicate (k - (dg (n % 10 ^ k)).length) 48 ++ dg (n % 10 ^ k)) ∨ k = 0 := by
  induction k with
  | zero => intro n _; exact .inr rfl
  | succ k ih =>
    intro n hn
    left
    have h10 : 10 ≤ n := Nat.le_trans (by rw [Nat.pow_succ]; have := Nat.pow_pos (n := k) (show 0 < 10 by decide); omega) hn
    rw [dg_snoc h10]
    have hp : 0 < 10 ^ k := Nat.pow_pos (by decide)
    have hq : 10 ^ k ≤ n / 10 := by
      rw [Nat.le_div_iff_mul_le (by decide), ← Nat.pow_succ]
      exact hn
    have e1 : n / 10 / 10 ^ k = n / 10 ^ (k + 1) := by rw [Nat.div_div_eq_div_mul, Nat.pow_succ, Nat.mul_comm]
    have e2 : n % 10 ^ (k + 1) = n / 10 % 10 ^ k * 10 + n % 10 := by
      rw [Nat.pow_succ, Nat.mul_comm (10 ^ k) 10, Nat.mod_mul]
      omega
    by_cases hk : k = 0
    · subst hk
      have e3 : n % 10 ^ (0 + 1) = n % 10 := by rw [Nat.zero_add, Nat.pow_one]
      have e4 : n / 10 ^ (0 + 1) = n / 10 := by rw [Nat.zero_add, Nat.pow_one]
      rw [e3, e4, dg_small (Nat.mod_lt n (by decide))]
      rfl
    · have h := (ih (n / 10) hq).resolve_right hk
      rw [h, e1, List.append_assoc, List.append_assoc]
      congr 1
      generalize hr : n / 10 % 10 ^ k = r at *
      rw [e2]
      by_cases h0 : r = 0
      · subst h0
        rw [Nat.zero_mul, Nat.zero_add, dg_small (Nat.mod_lt n (by decide)), dg_small (show 0 < 10 by decide)]
        show List.replicate (k - 1) 48 ++ ([48] ++ [48 + n % 10]) = List.replicate (k + 1 - 1) 48 ++ [48 + n % 10]
        rw [show k + 1 - 1 = k - 1 + 1 by omega, List.replicate_succ', List.append_assoc]
      · have h5 : 10 ≤ r * 10 + n % 10 := by omega
        rw [dg_snoc h5, show (r * 10 + n % 10) / 10 = r by omega, show (r * 10 + n % 10) % 10 = n % 10 by omega, List.length_append]
        show _ = List.replicate (k + 1 - ((dg r).length + 1)) 48 ++ _
        rw [show k + 1 - ((dg r).length + 1) = k - (dg r).length by omega]
theorem dg_len {n k : Nat} (h : n < 10 ^ k) (hk : 0 < k) : (dg n).length ≤ k := by
  induction k generalizing n with
  | zero => omega
  | succ k ih =>
    by_cases h10 : n < 10
    · rw [dg_small h10]; simp
    · rw [dg_snoc (by omega), List.length_append]
      have h2 : n / 10 < 10 ^ k := by
        rw [Nat.div_lt_iff_lt_mul (by decide), ← Nat.pow_succ]
        exact h
      have hk0 : 0 < k := by
        rcases Nat.eq_zero_or_pos k with rfl | z
        · simp at h2; omega
        · exact z
      have := ih h2 hk0
      simp
      omega
end TD

/-! texts as lists of signs -/
namespace TS
open PySem PySem.NumText PySem.W PySem.W.KIN TD PySem.Builtin.Str PyProof.Rows
abbrev sx (l : List Nat) : Str := ⟨l.toArray⟩
theorem sx_ext {x : Str} {l : List Nat} (h : x.cps.toList = l) : x = sx l := by
  subst h
  cases x
  simp
theorem sx_inj {l m : List Nat} (h : sx l = sx m) : l = m := by
  have := congrArg (fun z : Str => z.cps.toList) h
  simpa using this
theorem sx_len (l : List Nat) : (sx l).length = l.length := by
  show l.toArray.size = l.length
  simp
theorem sx_nat (n : Nat) : (toString ((n : Nat) : Int) : Str) = sx (dg n) := sx_ext (signs_num n)
theorem sx_neg {n : Nat} (h : 0 < n) : (toString (-((n : Nat) : Int)) : Str) = sx (45 :: dg n) := by
  refine sx_ext ?_
  rw [signs_ofString]
  obtain ⟨m, rfl⟩ : ∃ m, n = m + 1 := ⟨n - 1, by omega⟩
  show ("-" ++ Nat.repr (m + 1)).toList.map Char.toNat = _
  rw [String.toList_append, List.map_append, Nat.toList_repr]
  rfl
theorem sx_app (l m : List Nat) : sx l ++ sx m = sx (l ++ m) := by
  refine sx_ext ?_
  show (l.toArray ++ m.toArray).toList = _
  simp
theorem zf {l : List Nat} (ha : AllDigits l) {k : Nat} : Txt.zfill (sx l) ((k : Nat) : Int) = sx (List.replicate (k - l.length) 48 ++ l) := by
  unfold Txt.zfill
  rw [sx_len]
  by_cases h : ((k : Nat) : Int) ≤ ((l.length : Nat) : Int)
  · rw [if_pos h, show k - l.length = 0 by omega]
    rfl
  · rw [if_neg h]
    have e : (sx l).cps[0]? ≠ some 43 ∧ (sx l).cps[0]? ≠ some 45 := by
      show l.toArray[0]? ≠ some 43 ∧ l.toArray[0]? ≠ some 45
      cases l with
      | nil => exact ⟨by simp, by simp⟩
      | cons c l =>
        have := ha c List.mem_cons_self
        refine ⟨?_, ?_⟩ <;> simp <;> omega
    unfold zfilled
    split
    · rename_i h1; exact absurd h1 e.1
    · rename_i h1; exact absurd h1 e.2
    · refine sx_ext ?_
      show (Array.replicate (((k : Nat) : Int).toNat - l.length) 48 ++ l.toArray ++ Array.replicate 0 48).toList = _
      simp
theorem rp {l : List Nat} : Txt.removeprefix (sx l) (sx [45]) = sx (if l.head? = some 45 then l.tail else l) := by
  have e : subAt (sx l) (sx [45]) 0 = decide (l.head? = some 45) := by
    rw [StrLaws.subAt_eq]
    show ((l.toArray.toList.drop 0).take 1 == [45]) = _
    cases l with
    | nil => rfl
    | cons c l =>
      by_cases h : c = 45
      · subst h; simp
      · simp [h]
  unfold Txt.removeprefix
  rw [e]
  by_cases h : l.head? = some 45
  · rw [decide_eq_true h, if_pos rfl, if_pos h]
    unfold Txt.affix
    cases l with
    | nil => cases h
    | cons c l =>
      have e2 : ((sx (c :: l)).length - (sx [45]).length == (sx (c :: l)).length) = false := by
        rw [sx_len, sx_len]
        simp
      show (if ((sx (c :: l)).length - (sx [45]).length == (sx (c :: l)).length) = true then _ else _) = _
      rw [e2, if_neg Bool.false_ne_true]
      refine sx_ext ?_
      rw [StrLaws.strSub_toList, sx_len, sx_len]
      simp
  · rw [decide_eq_false h, if_neg Bool.false_ne_true, if_neg h]
    rfl
theorem pt_none {l : List Nat} (h : 47 ∉ l) : Txt.partition (sx l) (sx [47]) = (sx l, sx [], sx []) := by
  unfold Txt.partition
  rcases StrLaws.occ_head (sx l) ⟨#[47]⟩ 1 (Nat.le_refl 1) with ⟨h0, _⟩ | ⟨i, r, h0, hi, _⟩
  · show (match occurrences (sx l) ⟨#[47]⟩ 0 (sx l).length 1 with | i :: _ => _ | [] => _) = _
    rw [h0]
    rfl
  · exfalso
    have hm := (StrLaws.subAt_one (sx l) 47 i).mp hi
    have hm2 : l[i]? = some 47 := by simpa using hm
    exact h (List.mem_of_getElem? hm2)
theorem pt_some {a b : List Nat} (h : 47 ∉ a) : Txt.partition (sx (a ++ 47 :: b)) (sx [47]) = (sx a, sx [47], sx b) := by
  unfold Txt.partition
  have hat : (a ++ 47 :: b)[a.length]? = some 47 := by simp
  rcases StrLaws.occ_head (sx (a ++ 47 :: b)) ⟨#[47]⟩ 1 (Nat.le_refl 1) with ⟨h0, hn⟩ | ⟨i, r, h0, hi, hn⟩
  · exact absurd ((StrLaws.subAt_one (sx (a ++ 47 :: b)) 47 a.length).mpr (by simpa using hat)) (hn a.length)
  · have hm := (StrLaws.subAt_one (sx (a ++ 47 :: b)) 47 i).mp hi
    have hm2 : (a ++ 47 :: b)[i]? = some 47 := by simpa using hm
    have hi2 : i = a.length := by
      rcases Nat.lt_trichotomy i a.length with z | z | z
      · rw [List.getElem?_append_left z] at hm2
        exact absurd (List.mem_of_getElem? hm2) h
      · exact z
      · exact absurd ((StrLaws.subAt_one (sx (a ++ 47 :: b)) 47 a.length).mpr (by simpa using hat)) (hn a.length z)
    show (match occurrences (sx (a ++ 47 :: b)) ⟨#[47]⟩ 0 (sx (a ++ 47 :: b)).length 1 with | i :: _ => _ | [] => _) = _
    rw [h0, hi2]
    show (strSub _ 0 a.length, sx [47], strSub _ (a.length + (sx [47]).length) _) = _
    refine Prod.ext ?_ (Prod.ext rfl ?_)
    · refine sx_ext ?_
      rw [StrLaws.strSub_toList]
      simp
    · refine sx_ext ?_
      rw [StrLaws.strSub_toList, sx_len, sx_len]
      simp
      exact List.take_of_length_le (by omega)
/-! ### parts between strokes -/
def spl : List Nat → List (List Nat)
  | [] => [[]]
  | c :: l => if c = 47 then [] :: spl l else match spl l with
    | p :: ps => (c :: p) :: ps
    | [] => [[c]]
def joinL : List (List Nat) → List Nat
  | [] => []
  | [x] => x
  | x :: y :: r => x ++ 47 :: joinL (y :: r)
theorem spl_free : ∀ {l : List Nat}, 47 ∉ l → spl l = [l]
  | [], _ => rfl
  | c :: l, h => by
    have h1 : c ≠ 47 := fun e => h (by rw [e]; exact List.mem_cons_self)
    have ih := spl_free (l := l) fun z => h (List.mem_cons_of_mem _ z)
    unfold spl
    rw [if_neg h1, ih]
theorem spl_cons : ∀ {a b : List Nat}, 47 ∉ a → spl (a ++ 47 :: b) = a :: spl b
  | [], b, _ => by
    show spl (47 :: b) = _
    rw [spl, if_pos rfl]
  | c :: a, b, h => by
    have h1 : c ≠ 47 := fun e => h (by rw [e]; exact List.mem_cons_self)
    have ih := spl_cons (a := a) (b := b) fun z => h (List.mem_cons_of_mem _ z)
    show spl (c :: (a ++ 47 :: b)) = _
    rw [spl, if_neg h1, ih]
theorem spl_uni : ∀ {ps : List (List Nat)}, ps ≠ [] → (∀ p ∈ ps, 47 ∉ p) → spl (joinL ps) = ps
  | [], h, _ => absurd rfl h
  | [x], _, h => spl_free (h x List.mem_cons_self)
  | x :: y :: r, _, h => by
    show spl (x ++ 47 :: joinL (y :: r)) = _
    rw [spl_cons (h x List.mem_cons_self), spl_uni (List.cons_ne_nil _ _) fun p hp => h p (List.mem_cons_of_mem _ hp)]
theorem join_list : ∀ (ps : List Str), (Str.join (sx [47]) ps).cps.toList = joinL (ps.map fun p => p.cps.toList)
  | [] => rfl
  | [x] => rfl
  | x :: y :: r => by
    have ih := join_list (y :: r)
    show (x.cps ++ #[47] ++ (Str.join (sx [47]) (y :: r)).cps).toList = x.cps.toList ++ 47 :: joinL ((y :: r).map fun p => p.cps.toList)
    rw [Array.toList_append, Array.toList_append, ih]
    simp
theorem split_list (l : List Nat) : Txt.split (sx l) (sx [47]) = (spl l).map sx := by
  have h1 := StrLaws.split_free (sx l) 47
  have h2 := StrLaws.join_split (sx l) (sx [47])
  have h3 := split_pos (sx l) (sx [47])
  replace h1 : ∀ p ∈ Txt.split (sx l) (sx [47]), 47 ∉ p.cps.toList := h1
  generalize Txt.split (sx l) (sx [47]) = ps at h1 h2 h3
  have h4 := join_list ps
  rw [h2] at h4
  have h5 : spl (joinL (ps.map fun p => p.cps.toList)) = ps.map fun p => p.cps.toList := spl_uni (fun z => by
    have := congrArg List.length z
    rw [List.length_map, List.length_nil] at this
    omega) fun p hp => by
    obtain ⟨q, hq, rfl⟩ := List.mem_map.mp hp
    exact h1 q hq
  rw [← h4] at h5
  have h6 : (sx l).cps.toList = l := by simp
  rw [h6] at h5
  rw [h5, List.map_map]
  conv => lhs; rw [← List.map_id ps]
  refine List.map_congr_left fun p _ => ?_
  exact sx_ext rfl
end TS

/-! texts of fractions -/
namespace TF
open PySem PySem.NumText PySem.W PySem.W.KIN TD TS FR
/-- the figures of a whole number, with its sign -/
def sg (n : Int) : List Nat := if n < 0 then 45 :: dg n.natAbs else dg n.natAbs
def wr (a : F) : List Nat := sg a.1 ++ (if a.2 = 1 then [] else 47 :: dg a.2.natAbs)
def bare (l : List Nat) : List Nat := if l.head? = some 45 then l.tail else l
/-- the whole number that is written -/
def rd (l : List Nat) : Int := if l.head? = some 45 then -((digitsVal l.tail : Nat) : Int) else ((digitsVal l : Nat) : Int)
instance (l : List Nat) : Decidable (AllDigits l) := inferInstanceAs (Decidable (∀ c ∈ l, 48 ≤ c ∧ c ≤ 57))
instance (l : List Nat) : Decidable (IsDec l) := inferInstanceAs (Decidable (_ ∧ _ ∧ (_ → _)))
def topP (l : List Nat) : List Nat := l.takeWhile (· != 47)
def botP (l : List Nat) : List Nat := if 47 ∈ l then (l.dropWhile (· != 47)).tail else [49]
/-- the program's reading -/
def valP (l : List Nat) : F := lf (rd (topP l)) ((digitsVal (botP l) : Nat) : Int)
def prR (l : List Nat) : Option F :=
  if ¬ IsDec (bare (topP l)) ∨ ¬ IsDec (botP l) ∨ botP l = [48] then none
  else if wr (valP l) ≠ l then none else some (valP l)
/-- the law's reading -/
def badW (w : List Nat) : Prop := w = [] ∨ ¬ AllDigits w ∨ (w.head? = some 48 ∧ 1 < w.length)
instance (w : List Nat) : Decidable (badW w) := inferInstanceAs (Decidable (_ ∨ _ ∨ _))
def headP (l : List Nat) : List Nat := (spl l).headD []
def lwR (l : List Nat) : Option (Int × Int) :=
  if ∃ w ∈ bare (headP l) :: (spl l).tail, badW w then none
  else if 2 < (spl l).length ∨ headP l = [45, 48] ∨ (spl l).tail = [[48]] ∨ (spl l).tail = [[49]] then none
  else
    let b : Nat := if (spl l).length = 2 then digitsVal ((spl l).getD 1 []) else 1
    if Nat.gcd (digitsVal (bare (headP l))) b = 1 then some (rd (headP l), (b : Int)) else none
theorem badW_iff {w : List Nat} : badW w ↔ ¬ IsDec w := by
  unfold badW IsDec
  constructor
  · rintro (h | h | ⟨h1, h2⟩) ⟨d1, d2, d3⟩
    · exact d1 h
    · exact h d2
    · rw [d3 h1] at h2
      simp at h2
  · intro h
    by_cases h1 : w = []
    · exact .inl h1
    by_cases h2 : AllDigits w
    · right; right
      by_cases h3 : w.head? = some 48
      · refine ⟨h3, ?_⟩
        by_cases h4 : w = [48]
        · exact absurd ⟨h1, h2, fun _ => h4⟩ h
        · cases w with
          | nil => exact absurd rfl h1
          | cons c r =>
            cases r with
            | nil =>
              have : c = 48 := Option.some.inj h3
              rw [this] at h4
              exact absurd rfl h4
            | cons d r => simp
      · exact absurd ⟨h1, h2, fun z => absurd z h3⟩ h
    · exact .inr (.inl h2)
theorem dec_no {l : List Nat} (h : IsDec l) : 47 ∉ l ∧ 45 ∉ l := ⟨fun z => by have := h.2.1 47 z; omega, fun z => by have := h.2.1 45 z; omega⟩
theorem bare_dec {l : List Nat} (h : IsDec (bare l)) : (l.head? = some 45 ∧ l = 45 :: bare l) ∨ (l.head? ≠ some 45 ∧ l = bare l) := by
  unfold bare at *
  by_cases c : l.head? = some 45
  · left
    rw [if_pos c]
    refine ⟨c, ?_⟩
    cases l with
    | nil => cases c
    | cons a l =>
      have : a = 45 := Option.some.inj c
      rw [this]
      rfl
  · right
    rw [if_neg c]
    exact ⟨c, rfl⟩
theorem rd_sg {l : List Nat} (h : IsDec (bare l)) (hz : l ≠ [45, 48]) : sg (rd l) = l := by
  rcases bare_dec h with ⟨c, e⟩ | ⟨c, e⟩
  · have et : l.tail = bare l := by unfold bare; rw [if_pos c]
    have hv := val_dg h
    unfold rd sg
    rw [if_pos c, et]
    have pos : 0 < digitsVal (bare l) := by
      rcases Nat.eq_zero_or_pos (digitsVal (bare l)) with z | z
      · exfalso
        rw [z] at hv
        have : bare l = [48] := by rw [← hv]; exact dg_small (by decide)
        rw [this] at e
        exact hz e
      · exact z
    rw [if_pos (by omega), Int.natAbs_neg, Int.natAbs_natCast, hv]
    exact e.symm
  · have hv := val_dg h
    rw [← e] at hv
    unfold rd sg
    rw [if_neg c, if_neg (by omega), Int.natAbs_natCast, hv]
theorem rd_abs {l : List Nat} (h : IsDec (bare l)) : (rd l).natAbs = digitsVal (bare l) := by
  rcases bare_dec h with ⟨c, e⟩ | ⟨c, e⟩
  · have et : l.tail = bare l := by unfold bare; rw [if_pos c]
    unfold rd
    rw [if_pos c, et, Int.natAbs_neg, Int.natAbs_natCast]
  · unfold rd
    rw [if_neg c, Int.natAbs_natCast]
    rw [← e]
theorem dg_inj {m n : Nat} (h : dg m = dg n) : m = n := by rw [← dg_val m, ← dg_val n, h]
theorem sg_no (n : Int) : 47 ∉ sg n := by
  have h := (dec_no (dg_dec n.natAbs)).1
  unfold sg
  split
  · intro z
    rcases List.mem_cons.mp z with z | z
    · cases z
    · exact h z
  · exact h
theorem sg_inj {m n : Int} (h : sg m = sg n) : m = n := by
  have k : ∀ (z : Int), (sg z).head? = some 45 ↔ z < 0 := fun z => by
    unfold sg
    split
    · rename_i c; simp [c]
    · rename_i c
      constructor
      · intro e
        exfalso
        have := (dec_no (dg_dec z.natAbs)).2
        cases hd : dg z.natAbs with
        | nil => rw [hd] at e; cases e
        | cons a l =>
          rw [hd] at e
          have : a = 45 := Option.some.inj e
          exact (dec_no (dg_dec z.natAbs)).2 (by rw [hd, this]; exact List.mem_cons_self)
      · intro e; exact absurd e c
  have k2 := k m
  rw [h, k n] at k2
  unfold sg at h
  by_cases c : m < 0
  · rw [if_pos c, if_pos (k2.mpr c)] at h
    have := dg_inj (List.cons.inj h).2
    have := k2.mpr c
    omega
  · rw [if_neg c, if_neg (fun z => c (k2.mp z))] at h
    have := dg_inj h
    have : ¬ n < 0 := fun z => c (k2.mp z)
    omega
theorem uni {a b c d : List Nat} (ha : 47 ∉ a) (hc : 47 ∉ c) (h : a ++ 47 :: b = c ++ 47 :: d) : a = c ∧ b = d := by
  have h1 := spl_cons (b := b) ha
  have h2 := spl_cons (b := d) hc
  rw [h] at h1
  rw [h1] at h2
  have e := (List.cons.inj h2).1
  subst e
  exact ⟨rfl, (List.cons.inj (List.append_cancel_left h)).2⟩
theorem lf_one (n : Int) : lf n 1 = (n, 1) := by
  unfold lf nf
  rw [if_neg (by decide)]
  simp
theorem lf_cop {n m : Int} (hm : 0 < m) (h : Nat.gcd n.natAbs m.natAbs = 1) : lf n m = (n, m) := by
  unfold lf nf
  rw [if_neg (by omega)]
  have e : (Int.gcd n m : Int) = 1 := by
    show ((Nat.gcd n.natAbs m.natAbs : Nat) : Int) = 1
    rw [h]
    rfl
  simp [e]
theorem cut_none {l : List Nat} (h : 47 ∉ l) : topP l = l := by
  unfold topP
  exact takeWhile_all fun c hc => by
    have : c ≠ 47 := fun e => h (by rw [← e]; exact hc)
    simpa using this
theorem cut_top {a b : List Nat} (h : 47 ∉ a) : topP (a ++ 47 :: b) = a := by
  unfold topP
  rw [List.takeWhile_append_of_pos fun c hc => by
    have : c ≠ 47 := fun e => h (by rw [← e]; exact hc)
    simpa using this]
  simp
theorem cut_bot {a b : List Nat} (h : 47 ∉ a) : botP (a ++ 47 :: b) = b := by
  unfold botP
  rw [if_pos (by simp), List.dropWhile_append_of_pos fun c hc => by
    have : c ≠ 47 := fun e => h (by rw [← e]; exact hc)
    simpa using this]
  simp
theorem at_stroke {l : List Nat} (h : 47 ∈ l) : ∃ a b, l = a ++ 47 :: b ∧ 47 ∉ a := by
  induction l with
  | nil => cases h
  | cons c l ih =>
    by_cases e : c = 47
    · subst e
      exact ⟨[], l, rfl, fun z => by cases z⟩
    · rcases List.mem_cons.mp h with z | z
      · exact absurd z.symm e
      · obtain ⟨a, b, rfl, hn⟩ := ih z
        exact ⟨c :: a, b, rfl, fun w => by
          rcases List.mem_cons.mp w with w | w
          · exact e w.symm
          · exact hn w⟩
theorem dec_one : IsDec [49] := dg_small (n := 1) (by decide) ▸ dg_dec 1
theorem spl_pos (l : List Nat) : 0 < (spl l).length := by
  by_cases h : 47 ∈ l
  · obtain ⟨a, b, rfl, hn⟩ := at_stroke h
    rw [spl_cons hn]
    exact Nat.succ_pos _
  · rw [spl_free h]
    exact Nat.succ_pos _
theorem rd_mz : rd [45, 48] = 0 := by decide
theorem read_eq (l : List Nat) : prR l = lwR l := by
  by_cases hs : 47 ∈ l
  rotate_left
  · have eT := cut_none hs
    have eB : botP l = [49] := by unfold botP; rw [if_neg hs]
    have eS := spl_free hs
    have eH : headP l = l := by unfold headP; rw [eS]; rfl
    unfold prR lwR valP
    rw [eT, eB, eH, eS]
    have w1 : (∃ w ∈ bare l :: ([l] : List (List Nat)).tail, badW w) ↔ ¬ IsDec (bare l) := by
      rw [← badW_iff]
      simp
    by_cases hd : IsDec (bare l)
    rotate_left
    · rw [if_pos (.inl hd), if_pos (w1.mpr hd)]
    rw [if_neg (show ¬ (¬ IsDec (bare l) ∨ ¬ IsDec [49] ∨ ([49] : List Nat) = [48]) from fun z => by
      rcases z with z | z | z
      · exact z hd
      · exact z dec_one
      · cases z), if_neg (fun z => w1.mp z hd)]
    have ev : lf (rd l) ((digitsVal [49] : Nat) : Int) = (rd l, 1) := lf_one _
    rw [ev]
    by_cases hz : l = [45, 48]
    · have hne : wr (rd l, 1) ≠ l := by
        subst hz
        rw [rd_mz]
        decide
      rw [if_pos hne, if_pos (.inr (.inl hz))]
    · have ew : wr (rd l, 1) = l := by
        show sg (rd l) ++ [] = l
        rw [List.append_nil, rd_sg hd hz]
      rw [ew, if_neg (fun z => z rfl), if_neg (fun z => by
        rcases z with z | z | z | z
        · simp at z
        · exact hz z
        · cases z
        · cases z)]
      show some (rd l, (1 : Int)) = if Nat.gcd (digitsVal (bare l)) (if ([l] : List (List Nat)).length = 2 then _ else 1) = 1 then _ else none
      rw [if_neg (show ¬ ([l] : List (List Nat)).length = 2 by simp), if_pos (Nat.gcd_one_right _)]
      rfl
  obtain ⟨a, b, rfl, hn⟩ := at_stroke hs
  have eT := cut_top (b := b) hn
  have eB := cut_bot (b := b) hn
  have eS := spl_cons (b := b) hn
  have eH : headP (a ++ 47 :: b) = a := by unfold headP; rw [eS]; rfl
  unfold prR lwR valP
  rw [eT, eB, eH, eS]
  by_cases hb : 47 ∈ b
  · have hnd : ¬ IsDec b := fun z => (dec_no z).1 hb
    rw [if_pos (.inr (.inl hnd))]
    have h2 : 2 < (a :: spl b).length := by
      obtain ⟨c, d, rfl, hc⟩ := at_stroke hb
      rw [spl_cons hc, List.length_cons, List.length_cons]
      have := spl_pos d
      omega
    split
    · rfl
    · rw [if_pos (.inl h2)]
  have eb := spl_free hb
  rw [eb]
  have w2 : (∃ w ∈ bare a :: ([a, b] : List (List Nat)).tail, badW w) ↔ (¬ IsDec (bare a) ∨ ¬ IsDec b) := by
    rw [← badW_iff, ← badW_iff]
    simp
  by_cases hd : IsDec (bare a) ∧ IsDec b
  rotate_left
  · have hd2 : ¬ IsDec (bare a) ∨ ¬ IsDec b := by
      by_cases z : IsDec (bare a)
      · exact .inr fun y => hd ⟨z, y⟩
      · exact .inl z
    rw [if_pos (w2.mpr hd2), if_pos (by
      rcases hd2 with z | z
      · exact .inl z
      · exact .inr (.inl z))]
  obtain ⟨hda, hdb⟩ := hd
  rw [if_neg (show ¬ (∃ w ∈ bare a :: ([a, b] : List (List Nat)).tail, badW w) from fun z => by
    rcases w2.mp z with z | z
    · exact z hda
    · exact z hdb)]
  by_cases h48 : b = [48]
  · rw [if_pos (.inr (.inr h48)), if_pos (.inr (.inr (.inl (by rw [h48]; rfl))))]
  rw [if_neg (show ¬ (¬ IsDec (bare a) ∨ ¬ IsDec b ∨ b = [48]) from fun z => by
    rcases z with z | z | z
    · exact z hda
    · exact z hdb
    · exact h48 z)]
  have hvb := val_dg hdb
  have pos : 0 < digitsVal b := by
    rcases Nat.eq_zero_or_pos (digitsVal b) with z | z
    · exfalso
      rw [z] at hvb
      exact h48 (by rw [← hvb]; exact dg_small (by decide))
    · exact z
  have nrm : Nrm (lf (rd a) ((digitsVal b : Nat) : Int)) := lf_nrm (by omega)
  by_cases h49 : b = [49]
  · have hne : wr (lf (rd a) ((digitsVal b : Nat) : Int)) ≠ a ++ 47 :: b := by
      subst h49
      have ev : lf (rd a) ((digitsVal [49] : Nat) : Int) = (rd a, 1) := lf_one _
      rw [ev]
      intro z
      have : 47 ∈ wr (rd a, 1) := by rw [z]; simp
      have e2 : wr (rd a, 1) = sg (rd a) := List.append_nil _
      rw [e2] at this
      exact sg_no _ this
    rw [if_pos hne, if_pos (.inr (.inr (.inr (by rw [h49]; rfl))))]
  have key : wr (lf (rd a) ((digitsVal b : Nat) : Int)) = a ++ 47 :: b → lf (rd a) ((digitsVal b : Nat) : Int) = (rd a, ((digitsVal b : Nat) : Int)) ∧ a ≠ [45, 48] := by
    generalize hv : lf (rd a) ((digitsVal b : Nat) : Int) = v at nrm
    intro z
    unfold wr at z
    by_cases c : v.2 = 1
    · exfalso
      rw [if_pos c, List.append_nil] at z
      exact sg_no v.1 (by rw [z]; simp)
    · rw [if_neg c] at z
      obtain ⟨z1, z2⟩ := uni (sg_no v.1) hn z
      have hz : a ≠ [45, 48] := fun y => by
        have y2 : sg v.1 ≠ [45, 48] := by
          unfold sg
          split
          · rename_i neg
            intro y3
            have y4 : dg v.1.natAbs = [48] := (List.cons.inj y3).2
            have := dg_val v.1.natAbs
            rw [y4] at this
            have y5 : v.1.natAbs = 0 := this.symm
            omega
          · intro y3
            exact (dec_no (dg_dec v.1.natAbs)).2 (by rw [y3]; exact List.mem_cons_self)
        exact y2 (by rw [z1, y])
      have e1 : v.1 = rd a := sg_inj (by rw [z1, rd_sg hda hz])
      have e2 : v.2.natAbs = digitsVal b := by rw [← dg_val v.2.natAbs, z2]
      have p2 := nrm.1
      exact ⟨Prod.ext e1 (by show v.2 = _; omega), hz⟩
  by_cases hz : a = [45, 48]
  · have hne : wr (lf (rd a) ((digitsVal b : Nat) : Int)) ≠ a ++ 47 :: b := fun z => (key z).2 hz
    rw [if_pos hne, if_pos (.inr (.inl hz))]
  rw [if_neg (show ¬ (2 < ([a, b] : List (List Nat)).length ∨ a = [45, 48] ∨ ([a, b] : List (List Nat)).tail = [[48]] ∨ ([a, b] : List (List Nat)).tail = [[49]]) from fun z => by
    rcases z with z | z | z | z
    · simp at z
    · exact hz z
    · exact h48 (List.cons.inj z).1
    · exact h49 (List.cons.inj z).1)]
  show _ = if Nat.gcd (digitsVal (bare a)) (if ([a, b] : List (List Nat)).length = 2 then digitsVal b else 1) = 1 then some (rd a, ((if ([a, b] : List (List Nat)).length = 2 then digitsVal b else 1 : Nat) : Int)) else none
  rw [if_pos (show ([a, b] : List (List Nat)).length = 2 from rfl), ← rd_abs hda]
  by_cases g : Nat.gcd (rd a).natAbs (digitsVal b) = 1
  · have ev : lf (rd a) ((digitsVal b : Nat) : Int) = (rd a, ((digitsVal b : Nat) : Int)) := lf_cop (by omega) (by rw [Int.natAbs_natCast]; exact g)
    rw [if_pos g, ev]
    have hn1 : ((digitsVal b : Nat) : Int) ≠ 1 := fun z => by
      have z2 : digitsVal b = 1 := by omega
      rw [z2] at hvb
      exact h49 (by rw [← hvb]; exact dg_small (by decide))
    have ew : wr (rd a, ((digitsVal b : Nat) : Int)) = a ++ 47 :: b := by
      unfold wr
      rw [if_neg hn1, rd_sg hda hz]
      show a ++ 47 :: dg (((digitsVal b : Nat) : Int)).natAbs = _
      rw [Int.natAbs_natCast, hvb]
    rw [ew, if_neg (fun z => z rfl)]
  · have hne : wr (lf (rd a) ((digitsVal b : Nat) : Int)) ≠ a ++ 47 :: b := fun z => by
      have e := (key z).1
      rw [e] at nrm
      apply g
      have := nrm.2
      simpa [Int.gcd] using this
    rw [if_neg g, if_pos hne]
end TF

namespace TS
open PySem PySem.NumText PySem.W PySem.W.KIN TD PySem.Builtin.Str PyProof.Rows
/-! ### parts between signs of one kind -/
def splC (k : Nat) : List Nat → List (List Nat)
  | [] => [[]]
  | c :: l => if c = k then [] :: splC k l else match splC k l with
    | p :: ps => (c :: p) :: ps
    | [] => [[c]]
def joinC (k : Nat) : List (List Nat) → List Nat
  | [] => []
  | [x] => x
  | x :: y :: r => x ++ k :: joinC k (y :: r)
theorem splC_free {k : Nat} : ∀ {l : List Nat}, k ∉ l → splC k l = [l]
  | [], _ => rfl
  | c :: l, h => by
    have h1 : c ≠ k := fun e => h (by rw [e]; exact List.mem_cons_self)
    have ih := splC_free (l := l) fun z => h (List.mem_cons_of_mem _ z)
    unfold splC
    rw [if_neg h1, ih]
theorem splC_cons {k : Nat} : ∀ {a b : List Nat}, k ∉ a → splC k (a ++ k :: b) = a :: splC k b
  | [], b, _ => by
    show splC k (k :: b) = _
    rw [splC, if_pos rfl]
  | c :: a, b, h => by
    have h1 : c ≠ k := fun e => h (by rw [e]; exact List.mem_cons_self)
    have ih := splC_cons (a := a) (b := b) fun z => h (List.mem_cons_of_mem _ z)
    show splC k (c :: (a ++ k :: b)) = _
    rw [splC, if_neg h1, ih]
theorem splC_uni {k : Nat} : ∀ {ps : List (List Nat)}, ps ≠ [] → (∀ p ∈ ps, k ∉ p) → splC k (joinC k ps) = ps
  | [], h, _ => absurd rfl h
  | [x], _, h => splC_free (h x List.mem_cons_self)
  | x :: y :: r, _, h => by
    show splC k (x ++ k :: joinC k (y :: r)) = _
    rw [splC_cons (h x List.mem_cons_self), splC_uni (List.cons_ne_nil _ _) fun p hp => h p (List.mem_cons_of_mem _ hp)]
theorem joinC_list (k : Nat) : ∀ (ps : List Str), (Str.join (sx [k]) ps).cps.toList = joinC k (ps.map fun p => p.cps.toList)
  | [] => rfl
  | [x] => rfl
  | x :: y :: r => by
    have ih := joinC_list k (y :: r)
    show (x.cps ++ #[k] ++ (Str.join (sx [k]) (y :: r)).cps).toList = x.cps.toList ++ k :: joinC k ((y :: r).map fun p => p.cps.toList)
    rw [Array.toList_append, Array.toList_append, ih]
    simp
theorem splitC_list (k : Nat) (l : List Nat) : Txt.split (sx l) (sx [k]) = (splC k l).map sx := by
  have h1 := StrLaws.split_free (sx l) k
  have h2 := StrLaws.join_split (sx l) (sx [k])
  have h3 := split_pos (sx l) (sx [k])
  replace h1 : ∀ p ∈ Txt.split (sx l) (sx [k]), k ∉ p.cps.toList := h1
  generalize Txt.split (sx l) (sx [k]) = ps at h1 h2 h3
  have h4 := joinC_list k ps
  rw [h2] at h4
  have h5 : splC k (joinC k (ps.map fun p => p.cps.toList)) = ps.map fun p => p.cps.toList := splC_uni (fun z => by
    have := congrArg List.length z
    rw [List.length_map, List.length_nil] at this
    omega) fun p hp => by
    obtain ⟨q, hq, rfl⟩ := List.mem_map.mp hp
    exact h1 q hq
  rw [← h4] at h5
  have h6 : (sx l).cps.toList = l := by simp
  rw [h6] at h5
  rw [h5, List.map_map]
  conv => lhs; rw [← List.map_id ps]
  refine List.map_congr_left fun p _ => ?_
  exact sx_ext rfl
end TS

/-! f-strings; endswith, removesuffix of one sign -/
namespace PL
open PySem PySem.Spec PyProof.Rows L2 TS
variable [Nm]
section
variable {K : PySem.W.Frag} {ρ : Rho} {I J L N : Asn} {ta tb tc te to : TE} {tr : TA}
theorem e_fmtS {l : List Nat} (h : E K te ρ I (.d (.str (sx l))) J) (hl : l.length ≤ 100000) : E K (tFmt te) ρ I (.d (.str (sx l))) J := fun G H σ gh en io Q q => h G H σ gh en io _ fun v G1 H1 g1 gh1 j1 dv => by
  obtain rfl := dv_str dv
  exact .inl ⟨sx l, rfl, Nat.le_trans (by rw [sx_len]; exact hl) (by rw [sizeLine_eq]; decide), q _ G1 H1 g1 gh1 j1 (.str _)⟩
theorem e_fmtI {i : Int} (h : E K te ρ I (.i i) J) (hl : i.natAbs.log2 < 1920) : E K (tFmt te) ρ I (.d (.str (toString i))) J := fun G H σ gh en io Q q => h G H σ gh en io _ fun v G1 H1 g1 gh1 j1 dv => by
  obtain rfl := dv_int dv
  exact .inr ⟨i, rfl, hl, q _ G1 H1 g1 gh1 j1 (.str _)⟩
/-- the parts of an f-string -/
def FJ (K : PySem.W.Frag) : List TE → Rho → Asn → List (List Nat) → Prop
  | [], _, _, [] => True
  | t :: ts, ρ, I, x :: xs => E K t ρ I (.d (.str (sx x))) I ∧ FJ K ts ρ I xs
  | _, _, _, _ => False
theorem fj_run : ∀ {ts : List TE} {xs : List (List Nat)} {acc : List Nat}, FJ K ts ρ I xs → (acc ++ xs.flatten).length ≤ 100000 →
    ∀ G H σ, Same G H → EnvD K G σ ρ → I.ok G H → ∀ Q : Str → Hp → Prop, (∀ G2 H2, Same G G2 → Same G2 H2 → I.ok G2 H2 → Q (sx (acc ++ xs.flatten)) H2) → tJs ts (sx acc) σ H Q
  | [], [], acc, _, _, G, H, σ, gh, en, io, Q, q => by
    have := q G H (Same.refl _) gh io
    simp at this
    exact this
  | t :: ts, x :: xs, acc, h, hl, G, H, σ, gh, en, io, Q, q => by
    obtain ⟨h1, h2⟩ := h
    have ef : acc ++ (x :: xs).flatten = (acc ++ x) ++ xs.flatten := by simp
    rw [ef] at hl
    refine h1 G H σ gh en io _ fun v G1 H1 g1 gh1 j1 dv => ?_
    obtain rfl := dv_str dv
    refine ⟨sx x, rfl, ?_, ?_⟩
    · rw [sx_app, sx_len]
      refine Nat.le_trans ?_ (show 100000 ≤ sizeLine by rw [sizeLine_eq]; decide)
      rw [List.length_append] at hl
      omega
    · rw [sx_app]
      refine fj_run h2 hl G1 H1 σ gh1 (env_mono g1 en) j1 Q fun G2 H2 g2 gh2 j2 => ?_
      rw [← ef]
      exact q G2 H2 (g1.trans g2) gh2 j2
  | [], _ :: _, _, h, _, _, _, _, _, _, _, _, _ => h.elim
  | _ :: _, [], _, h, _, _, _, _, _, _, _, _, _ => h.elim
theorem e_fj {ts : List TE} {xs : List (List Nat)} (h : FJ K ts ρ I xs) (hl : xs.flatten.length ≤ 100000) : E K (fun σ H Q => tJs ts Str.empty σ H fun out H1 => Q (.str out) H1) ρ I (.d (.str (sx xs.flatten))) I := fun G H σ gh en io Q q =>
  fj_run (acc := []) h hl G H σ gh en io _ fun G2 H2 g2 gh2 j2 => q _ G2 H2 g2 gh2 j2 (.str _)
/-! ### the last sign -/
theorem ends_one {l : List Nat} {c : Nat} : Txt.endswith (sx l) (sx [c]) = decide (l.getLast? = some c) := by
  unfold Txt.endswith
  rw [sx_len, sx_len, StrLaws.subAt_eq]
  show (decide (0 + 1 ≤ l.length) && ((l.toArray.toList.drop (l.length - 1)).take 1 == [c])) = _
  rcases List.eq_nil_or_concat l with rfl | ⟨m, d, rfl⟩
  · rfl
  · rw [List.concat_eq_append]
    simp
    rw [Bool.eq_iff_iff, decide_eq_true_iff, beq_iff_eq]
theorem rs_one {l : List Nat} {c : Nat} : Txt.removesuffix (sx l) (sx [c]) = sx (if l.getLast? = some c then l.dropLast else l) := by
  have e : (decide ((sx [c]).length ≤ (sx l).length) && PySem.Builtin.Str.subAt (sx l) (sx [c]) ((sx l).length - (sx [c]).length)) = decide (l.getLast? = some c) := by
    rw [← ends_one]
    unfold Txt.endswith
    rw [Nat.zero_add]
  unfold Txt.removesuffix
  rw [e]
  by_cases h : l.getLast? = some c
  · rw [decide_eq_true h, if_pos rfl, if_pos h]
    rcases List.eq_nil_or_concat l with rfl | ⟨m, d, rfl⟩
    · cases h
    · rw [List.concat_eq_append]
      unfold Txt.affix
      have e2 : ((sx (m ++ [d])).length - (sx [c]).length - 0 == (sx (m ++ [d])).length) = false := by
        rw [sx_len, sx_len]
        simp
      show (if ((sx (m ++ [d])).length - (sx [c]).length - 0 == (sx (m ++ [d])).length) = true then _ else _) = _
      rw [e2, if_neg Bool.false_ne_true]
      refine sx_ext ?_
      rw [StrLaws.strSub_toList, sx_len, sx_len]
      simp
  · rw [decide_eq_false h, if_neg Bool.false_ne_true, if_neg h]
    rfl
theorem e_ends {l : List Nat} {c : Nat} {z : Str} (ho : E K to ρ I (.d (.str (sx l))) J) (he : E K te ρ J (.d (.str z)) L) (hz : z = sx [c]) : E K (tM1 (fun x xs H Q => ∃ a b, x = .str a ∧ xs = [.str b] ∧ Q (.bl (Txt.endswith a b)) H) to te) ρ I (.b (decide (l.getLast? = some c))) L := by
  subst hz
  rw [← ends_one]
  exact e_m1 ho he fun G H v gh lo dv Q q => by
    obtain rfl := dv_str dv
    exact ⟨_, _, rfl, rfl, q _ G H (Same.refl _) gh lo (.bl _)⟩
theorem e_remsuf {l : List Nat} {c : Nat} {z : Str} (ho : E K to ρ I (.d (.str (sx l))) J) (he : E K te ρ J (.d (.str z)) L) (hz : z = sx [c]) (hl : l.length ≤ 100000) : E K (tM1 (fun x xs H Q => ∃ a b, x = .str a ∧ xs = [.str b] ∧ a.length ≤ sizeLine ∧ Q (.str (Txt.removesuffix a b)) H) to te) ρ I (.d (.str (sx (if l.getLast? = some c then l.dropLast else l)))) L := by
  subst hz
  rw [← rs_one]
  exact e_m1 ho he fun G H v gh lo dv Q q => by
    obtain rfl := dv_str dv
    exact ⟨_, _, rfl, rfl, Nat.le_trans (by rw [sx_len]; exact hl) (by rw [sizeLine_eq]; decide), q _ G H (Same.refl _) gh lo (.str _)⟩
end
end PL

/-! x not in a tuple of data -/
namespace L2
open PySem PySem.Spec PyProof.Rows
section
variable {X : Cx}
def rNotInTD (K : PySem.W.Frag) : R2 := fun x y H Q => ∃ d ds, Dp K H x d ∧ Dp K H y (.tuple ds) ∧ SeqAt.shaped d = true ∧ SeqAt.shaped (.tuple ds) = true ∧ Q (.bl (!ds.any fun z => PyData.eqv z d)) H
theorem op_notInTD (hu : X.A.units + 65 < cLine) : OpR X (compareOp .NotIn) (rNotInTD X.K) := by
  intro pins s σ H x y v u Q I rx ry h
  obtain ⟨d, ds, h1, h2, s1, s2, q⟩ := h
  obtain ⟨as, r1⟩ := Dp.reads I d x v h1 rx
  obtain ⟨bs, r2⟩ := Dp.reads I (.tuple ds) y u h2 ry
  refine SeqAt.notIn_tuple_reads r2 r1 (SeqAt.canLay_of_shaped s2) (SeqAt.canLay_of_shaped s1) ?_ ⟨.bl _, H, I, rfl, q⟩
  unfold SeqAt.shaped at s1
  rw [Bool.and_eq_true, decide_eq_true_iff] at s1
  have := Nat.min_le_right (PyData.depthAll ds) d.depth
  omega
end
end L2
namespace PL
open PySem PySem.Spec PyProof.Rows L2
variable [Nm]
section
variable {K : PySem.W.Frag} {ρ : Rho} {I J L : Asn} {ta tb : TE} {y : PyData}
theorem e_notInT {xs : List PyData} (ha : E K ta ρ I (.d y) J) (hb : E K tb ρ J (.t xs) L) (hx : SeqAt.shaped y = true) (hy : SeqAt.shaped (.tuple xs) = true) : E K (tOp (rNotInTD K) ta tb) ρ I (.b (!xs.any fun z => PyData.eqv z y)) L :=
  e_op ha hb fun G H v w gh lo dx dy Q q => ⟨y, xs, dp_mono gh _ _ dx, dp_mono gh _ _ dy, hx, hy, q _ G H (Same.refl _) gh lo (.bl _)⟩
end
end PL

/-! texts of runs: writing and reading -/
namespace TR
open PySem PySem.NumText PySem.W PySem.W.KIN TD TS TF FR
structure Nm4 where
  k : List Nat
  a : Nat
  b : Nat
  s : Nat
def nmT (z : Nm4) : List Nat := z.k ++ (32 :: dg z.a) ++ (32 :: dg z.b) ++ (32 :: dg z.s)
/-- what a text of a fraction is read as -/
def rdF (l : List Nat) : Option F := if 1000 < l.length then none else prR l
/-- a whole number of at most nine figures -/
instance (l : List Nat) : Decidable (IsDec l) := inferInstanceAs (Decidable (_ ∧ _ ∧ _))
def rdN (l : List Nat) : Option Nat := if l.length ≤ 9 ∧ IsDec l then some (digitsVal l) else none
structure St3 where
  ps : List (Nat × F × F)
  ss : List (F × F)
  fs : List (Nm4 × F)
abbrev wStep : List Nat := [115, 116, 101, 112]
abbrev wPush : List Nat := [112, 117, 115, 104]
abbrev wSpeed : List Nat := [115, 112, 101, 101, 100]
abbrev wForce : List Nat := [102, 111, 114, 99, 101]
abbrev wApart : List Nat := [97, 112, 97, 114, 116]
abbrev wJoint : List Nat := [106, 111, 105, 110, 116]
def vT (v : F × F) : List Nat := wr v.1 ++ 32 :: wr v.2
def pushL (v : Nat × F × F) : List Nat := wPush ++ 32 :: (dg v.1 ++ 32 :: vT v.2)
def speedL (v : F × F) : List Nat := wSpeed ++ 32 :: vT v
def forceL (v : Nm4 × F) : List Nat := wForce ++ 32 :: (v.1.k ++ 32 :: (dg v.1.a ++ 32 :: (dg v.1.b ++ 32 :: (dg v.1.s ++ 32 :: wr v.2))))
def stLines (s : St3) : List (List Nat) := wStep :: (s.ps.map pushL ++ (s.ss.map speedL ++ s.fs.map forceL))
def linesAll (r : List St3) : List (List Nat) := (r.map stLines).flatten
def glue (ls : List (List Nat)) : List Nat := (ls.map (· ++ [10])).flatten
def textOf (r : List St3) : List Nat := glue (linesAll r)
/-! ### reading -/
def wds (f : List Nat) (n : Nat) (l : List Nat) : Option (List (List Nat)) := if (splC 32 l).head? = some f ∧ (splC 32 l).length = n + 1 then some (splC 32 l).tail else none
def rdV : List (List Nat) → Option (F × F)
  | [a, b] => match rdF a, rdF b with
    | some x, some y => some (x, y)
    | _, _ => none
  | _ => none
def rdFo : List (List Nat) → Option (Nm4 × F)
  | [k, a, b, s, m] => if k = wApart ∨ k = wJoint then match rdN a, rdN b, rdN s, rdF m with
      | some x, some y, some z, some v => some (⟨k, x, y, z⟩, v)
      | _, _, _, _ => none
    else none
  | _ => none
def rdP3 : List (List Nat) → Option (Nat × F × F)
  | [n, a, b] => match rdN n, rdV [a, b] with
    | some x, some v => some (x, v)
    | _, _ => none
  | _ => none
def rdPush (l : List Nat) : Option (Nat × F × F) := (wds wPush 3 l).bind rdP3
def rdSpeed (l : List Nat) : Option (F × F) := (wds wSpeed 2 l).bind rdV
def rdForce (l : List Nat) : Option (Nm4 × F) := (wds wForce 5 l).bind rdFo
structure RS where
  done : List St3
  cur : St3
  part : Nat
def stepsOf : Option RS → List St3
  | none => []
  | some r => r.done ++ [r.cur]
def word (l : List Nat) : List Nat := (splC 32 l).headD []
def nextL (s : Option RS) (l : List Nat) : Option RS :=
  if l = wStep then some ⟨stepsOf s, ⟨[], [], []⟩, 0⟩ else
  match s with
  | none => none
  | some r =>
    if word l = wPush then (if r.part ≤ 0 then (rdPush l).map fun v => ⟨r.done, ⟨r.cur.ps ++ [v], r.cur.ss, r.cur.fs⟩, 0⟩ else none)
    else if word l = wSpeed then (if r.part ≤ 1 then (rdSpeed l).map fun v => ⟨r.done, ⟨r.cur.ps, r.cur.ss ++ [v], r.cur.fs⟩, 1⟩ else none)
    else if word l = wForce then ((rdForce l).map fun v => ⟨r.done, ⟨r.cur.ps, r.cur.ss, r.cur.fs ++ [v]⟩, 2⟩)
    else none
def runL : Option RS → List (List Nat) → Option (Option RS)
  | s, [] => some s
  | s, l :: ls => match nextL s l with
    | none => none
    | some r => runL (some r) ls
def lns (t : List Nat) : Option (List (List Nat)) := if t = [] then some [] else if t.getLast? = some 10 then some (splC 10 t.dropLast) else none
def rdRun (t : List Nat) : Option (List St3) := (lns t).bind fun ls => (runL none ls).map stepsOf
/-! ### parts and their joining -/
theorem splC_ne (k : Nat) (l : List Nat) : ∃ q qs, splC k l = q :: qs := by
  cases l with
  | nil => exact ⟨[], [], rfl⟩
  | cons c l =>
    unfold splC
    split
    · exact ⟨_, _, rfl⟩
    · split
      · exact ⟨_, _, rfl⟩
      · exact ⟨_, _, rfl⟩
theorem join_spl (k : Nat) : ∀ l : List Nat, joinC k (splC k l) = l
  | [] => rfl
  | c :: l => by
    have ih := join_spl k l
    obtain ⟨q, qs, e⟩ := splC_ne k l
    unfold splC
    split
    · rename_i h
      rw [e] at ih ⊢
      show [] ++ k :: joinC k (q :: qs) = _
      rw [ih, h]
      rfl
    · rw [e] at ih ⊢
      show joinC k ((c :: q) :: qs) = _
      cases qs with
      | nil =>
        show c :: q = _
        rw [← ih]
        rfl
      | cons r rs =>
        show c :: q ++ k :: joinC k (r :: rs) = _
        rw [← ih]
        rfl
theorem glue_join : ∀ {ls : List (List Nat)}, ls ≠ [] → joinC 10 ls ++ [10] = glue ls
  | [], h => absurd rfl h
  | [x], _ => by simp [joinC, glue]
  | x :: y :: r, _ => by
    have ih := glue_join (ls := y :: r) (List.cons_ne_nil _ _)
    show x ++ 10 :: joinC 10 (y :: r) ++ [10] = _
    rw [List.append_assoc, List.cons_append, ih]
    simp [glue]
theorem lns_back {t : List Nat} {ls : List (List Nat)} (h : lns t = some ls) : glue ls = t := by
  unfold lns at h
  by_cases h0 : t = []
  · rw [if_pos h0] at h
    cases h
    rw [h0]
    rfl
  rw [if_neg h0] at h
  by_cases h1 : t.getLast? = some 10
  · rw [if_pos h1] at h
    cases h
    obtain ⟨q, qs, e⟩ := splC_ne 10 t.dropLast
    rw [← glue_join (by rw [e]; exact List.cons_ne_nil _ _), join_spl]
    have h2 := List.dropLast_concat_getLast h0
    rw [List.getLast?_eq_some_getLast h0] at h1
    rw [Option.some.inj h1] at h2
    exact h2
  · rw [if_neg h1] at h
    cases h
/-! ### a line that is read is the line that is written -/
theorem lt_dg (n : Nat) : n < 10 ^ (dg n).length := by
  induction n using Nat.strongRecOn with
  | _ n ih =>
    by_cases h : n < 10
    · rw [dg_small h]; exact h
    · rw [dg_snoc (by omega), List.length_append, List.length_singleton, Nat.pow_succ]
      have := ih (n / 10) (by omega)
      omega
theorem rdN_back {l : List Nat} {n : Nat} (h : rdN l = some n) : dg n = l ∧ n < 10 ^ 9 := by
  unfold rdN at h
  by_cases c : l.length ≤ 9 ∧ IsDec l
  · rw [if_pos c] at h
    cases h
    have := lt_dg (digitsVal l)
    rw [val_dg c.2] at this
    exact ⟨val_dg c.2, Nat.lt_of_lt_of_le this (Nat.pow_le_pow_right (by decide) c.1)⟩
  · rw [if_neg c] at h
    cases h
theorem rdF_back {l : List Nat} {a : F} (h : rdF l = some a) : wr a = l := by
  unfold rdF at h
  by_cases c : 1000 < l.length
  · rw [if_pos c] at h
    cases h
  rw [if_neg c] at h
  unfold prR at h
  by_cases d : ¬ IsDec (bare (topP l)) ∨ ¬ IsDec (botP l) ∨ botP l = [48]
  · rw [if_pos d] at h
    cases h
  rw [if_neg d] at h
  by_cases e : wr (valP l) = l
  · rw [if_neg (fun z => z e)] at h
    cases h
    exact e
  · rw [if_pos e] at h
    cases h
theorem rdF_pos {l : List Nat} {a : F} (h : rdF l = some a) : 0 < a.2 := by
  unfold rdF at h
  by_cases c : 1000 < l.length
  · rw [if_pos c] at h
    cases h
  rw [if_neg c] at h
  unfold prR at h
  by_cases d : ¬ IsDec (bare (topP l)) ∨ ¬ IsDec (botP l) ∨ botP l = [48]
  · rw [if_pos d] at h
    cases h
  rw [if_neg d] at h
  by_cases e : wr (valP l) = l
  · rw [if_neg (fun z => z e)] at h
    cases h
    refine (lf_nrm (fun z => d ?_)).1
    by_cases i : IsDec (botP l)
    · refine .inr (.inr ?_)
      rw [← val_dg i]
      have : digitsVal (botP l) = 0 := Int.ofNat_inj.mp z
      rw [this]
      exact dg_small (by decide)
    · exact .inr (.inl i)
  · rw [if_pos e] at h
    cases h
theorem wds_back {f l : List Nat} {n : Nat} {ws : List (List Nat)} (h : wds f n l = some ws) : l = joinC 32 (f :: ws) ∧ ws.length = n := by
  unfold wds at h
  by_cases c : (splC 32 l).head? = some f ∧ (splC 32 l).length = n + 1
  · rw [if_pos c] at h
    cases h
    obtain ⟨q, qs, e⟩ := splC_ne 32 l
    have j := join_spl 32 l
    rw [e] at c j ⊢
    have hq : q = f := Option.some.inj c.1
    subst hq
    exact ⟨j.symm, Nat.succ.inj c.2⟩
  · rw [if_neg c] at h
    cases h
theorem rdV_back {ws : List (List Nat)} {v : F × F} (h : rdV ws = some v) : ws = [wr v.1, wr v.2] ∧ 0 < v.1.2 ∧ 0 < v.2.2 := by
  unfold rdV at h
  split at h
  · rename_i a b
    split at h
    · rename_i x y ha hb
      cases h
      rw [rdF_back ha, rdF_back hb]
      exact ⟨rfl, rdF_pos ha, rdF_pos hb⟩
    · cases h
  · cases h
structure FoOk (v : Nm4 × F) : Prop where
  k : v.1.k = wApart ∨ v.1.k = wJoint
  a : v.1.a < 10 ^ 9
  b : v.1.b < 10 ^ 9
  s : v.1.s < 10 ^ 9
  f : 0 < v.2.2
theorem rdFo_back {ws : List (List Nat)} {v : Nm4 × F} (h : rdFo ws = some v) : ws = [v.1.k, dg v.1.a, dg v.1.b, dg v.1.s, wr v.2] ∧ FoOk v := by
  unfold rdFo at h
  split at h
  · rename_i k a b s m
    by_cases c : k = wApart ∨ k = wJoint
    · rw [if_pos c] at h
      split at h
      · rename_i x y z w hx hy hz hw
        cases h
        obtain ⟨a1, a2⟩ := rdN_back hx
        obtain ⟨b1, b2⟩ := rdN_back hy
        obtain ⟨s1, s2⟩ := rdN_back hz
        refine ⟨?_, ⟨c, a2, b2, s2, rdF_pos hw⟩⟩
        show _ = [k, dg x, dg y, dg z, wr w]
        rw [a1, b1, s1, rdF_back hw]
      · cases h
    · rw [if_neg c] at h
      cases h
  · cases h
theorem rdP3_back {ws : List (List Nat)} {v : Nat × F × F} (h : rdP3 ws = some v) : ws = [dg v.1, wr v.2.1, wr v.2.2] ∧ v.1 < 10 ^ 9 ∧ 0 < v.2.1.2 ∧ 0 < v.2.2.2 := by
  unfold rdP3 at h
  split at h
  · rename_i n a b
    split at h
    · rename_i x w hx hw
      cases h
      obtain ⟨e1, e2⟩ := rdN_back hx
      obtain ⟨e3, e4, e5⟩ := rdV_back hw
      refine ⟨?_, e2, e4, e5⟩
      show _ = [dg x, wr w.1, wr w.2]
      rw [← e3, e1]
    · cases h
  · cases h
theorem push_back {l : List Nat} {v : Nat × F × F} (h : rdPush l = some v) : pushL v = l ∧ v.1 < 10 ^ 9 ∧ 0 < v.2.1.2 ∧ 0 < v.2.2.2 := by
  unfold rdPush at h
  rw [Option.bind_eq_some_iff] at h
  obtain ⟨ws, h1, h2⟩ := h
  obtain ⟨e1, e2⟩ := wds_back h1
  obtain ⟨e3, e4⟩ := rdP3_back h2
  refine ⟨?_, e4⟩
  rw [e1, e3]
  rfl
theorem speed_back {l : List Nat} {v : F × F} (h : rdSpeed l = some v) : speedL v = l ∧ 0 < v.1.2 ∧ 0 < v.2.2 := by
  unfold rdSpeed at h
  rw [Option.bind_eq_some_iff] at h
  obtain ⟨ws, h1, h2⟩ := h
  obtain ⟨e1, e2⟩ := wds_back h1
  obtain ⟨e3, e4⟩ := rdV_back h2
  refine ⟨?_, e4⟩
  rw [e1, e3]
  rfl
theorem force_back {l : List Nat} {v : Nm4 × F} (h : rdForce l = some v) : forceL v = l ∧ FoOk v := by
  unfold rdForce at h
  rw [Option.bind_eq_some_iff] at h
  obtain ⟨ws, h1, h2⟩ := h
  obtain ⟨e1, e2⟩ := wds_back h1
  obtain ⟨e3, e4⟩ := rdFo_back h2
  refine ⟨?_, e4⟩
  rw [e1, e3]
  rfl
/-! ### reading all lines -/
structure StepOk (s : St3) : Prop where
  hp : ∀ v ∈ s.ps, v.1 < 10 ^ 9 ∧ 0 < v.2.1.2 ∧ 0 < v.2.2.2
  hs : ∀ v ∈ s.ss, 0 < v.1.2 ∧ 0 < v.2.2
  hf : ∀ v ∈ s.fs, FoOk v
def Ord : Option RS → Prop
  | none => True
  | some r => (r.part = 0 → r.cur.ss = []) ∧ (r.part ≤ 1 → r.cur.fs = []) ∧ ∀ s ∈ r.done ++ [r.cur], StepOk s
theorem step0_ok : StepOk ⟨[], [], []⟩ := ⟨(fun _ h => nomatch h), (fun _ h => nomatch h), (fun _ h => nomatch h)⟩
theorem ord_all {s : Option RS} (h : Ord s) : ∀ x ∈ stepsOf s, StepOk x := by
  cases s with
  | none => intro x hx; cases hx
  | some r => exact h.2.2
theorem all_snoc (r : List St3) (s : St3) : linesAll (r ++ [s]) = linesAll r ++ stLines s := by
  unfold linesAll
  rw [List.map_append, List.flatten_append]
  simp
theorem nextL_back {s : Option RS} {l : List Nat} {r : RS} (o : Ord s) (h : nextL s l = some r) : Ord (some r) ∧ linesAll (stepsOf (some r)) = linesAll (stepsOf s) ++ [l] := by
  unfold nextL at h
  by_cases c0 : l = wStep
  · rw [if_pos c0] at h
    cases h
    refine ⟨⟨fun _ => rfl, fun _ => rfl, fun x hx => ?_⟩, ?_⟩
    · rcases List.mem_append.mp hx with hx | hx
      · exact ord_all o x hx
      · rw [List.mem_singleton.mp hx]
        exact step0_ok
    · show linesAll (stepsOf s ++ [⟨[], [], []⟩]) = _
      rw [all_snoc, c0]
      rfl
  rw [if_neg c0] at h
  cases s with
  | none => cases h
  | some q =>
    obtain ⟨o1, o2, o3⟩ := o
    have od : ∀ x ∈ q.done, StepOk x := fun x hx => o3 x (List.mem_append_left _ hx)
    have oc : StepOk q.cur := o3 _ (List.mem_append_right _ (List.mem_singleton.mpr rfl))
    have mk : ∀ {c : St3}, StepOk c → ∀ x ∈ q.done ++ [c], StepOk x := fun hc x hx => by
      rcases List.mem_append.mp hx with hx | hx
      · exact od x hx
      · rw [List.mem_singleton.mp hx]
        exact hc
    dsimp only at h
    show _ ∧ _ = linesAll (q.done ++ [q.cur]) ++ [l]
    by_cases c1 : word l = wPush
    · rw [if_pos c1] at h
      by_cases cp : q.part ≤ 0
      · rw [if_pos cp, Option.map_eq_some_iff] at h
        obtain ⟨v, hv, e⟩ := h
        cases e
        obtain ⟨b1, b2⟩ := push_back hv
        have e1 := o1 (by omega)
        have e2 := o2 (by omega)
        refine ⟨⟨fun _ => e1, fun _ => e2, mk ⟨fun w hw => ?_, oc.hs, oc.hf⟩⟩, ?_⟩
        · rcases List.mem_append.mp hw with hw | hw
          · exact oc.hp w hw
          · rw [List.mem_singleton.mp hw]
            exact b2
        · show linesAll (q.done ++ [_]) = _
          rw [all_snoc, all_snoc]
          unfold stLines
          rw [e1, e2, ← b1]
          simp
      · rw [if_neg cp] at h
        cases h
    rw [if_neg c1] at h
    by_cases c2 : word l = wSpeed
    · rw [if_pos c2] at h
      by_cases cp : q.part ≤ 1
      · rw [if_pos cp, Option.map_eq_some_iff] at h
        obtain ⟨v, hv, e⟩ := h
        cases e
        obtain ⟨b1, b2⟩ := speed_back hv
        have e2 := o2 cp
        refine ⟨⟨(fun z => nomatch z), fun _ => e2, mk ⟨oc.hp, fun w hw => ?_, oc.hf⟩⟩, ?_⟩
        · rcases List.mem_append.mp hw with hw | hw
          · exact oc.hs w hw
          · rw [List.mem_singleton.mp hw]
            exact b2
        · show linesAll (q.done ++ [_]) = _
          rw [all_snoc, all_snoc]
          unfold stLines
          rw [e2, ← b1]
          simp
      · rw [if_neg cp] at h
        cases h
    rw [if_neg c2] at h
    by_cases c3 : word l = wForce
    · rw [if_pos c3, Option.map_eq_some_iff] at h
      obtain ⟨v, hv, e⟩ := h
      cases e
      obtain ⟨b1, b2⟩ := force_back hv
      refine ⟨⟨(fun z => nomatch z), (fun z => nomatch z), mk ⟨oc.hp, oc.hs, fun w hw => ?_⟩⟩, ?_⟩
      · rcases List.mem_append.mp hw with hw | hw
        · exact oc.hf w hw
        · rw [List.mem_singleton.mp hw]
          exact b2
      · show linesAll (q.done ++ [_]) = _
        rw [all_snoc, all_snoc]
        unfold stLines
        rw [← b1]
        simp
    · rw [if_neg c3] at h
      cases h
theorem runL_back : ∀ {ls : List (List Nat)} {s s' : Option RS}, Ord s → runL s ls = some s' → Ord s' ∧ linesAll (stepsOf s') = linesAll (stepsOf s) ++ ls
  | [], s, s', o, h => by
    cases h
    rw [List.append_nil]
    exact ⟨o, rfl⟩
  | l :: ls, s, s', o, h => by
    unfold runL at h
    split at h
    · cases h
    · rename_i r hr
      obtain ⟨o1, e1⟩ := nextL_back o hr
      obtain ⟨o2, e2⟩ := runL_back o1 h
      refine ⟨o2, ?_⟩
      rw [e2, e1, List.append_assoc]
      rfl
theorem rdRun_back {t : List Nat} {r : List St3} (h : rdRun t = some r) : textOf r = t ∧ ∀ s ∈ r, StepOk s := by
  unfold rdRun at h
  rw [Option.bind_eq_some_iff] at h
  obtain ⟨ls, h1, h2⟩ := h
  rw [Option.map_eq_some_iff] at h2
  obtain ⟨s, h2, rfl⟩ := h2
  obtain ⟨o, e⟩ := runL_back (s := none) trivial h2
  refine ⟨?_, ord_all o⟩
  unfold textOf
  rw [e]
  show glue ([] ++ ls) = t
  rw [List.nil_append]
  exact lns_back h1
/-! ### what was written is read -/
def Cw (l : List Nat) : Prop := ∀ c ∈ l, 33 ≤ c
instance (l : List Nat) : Decidable (Cw l) := inferInstanceAs (Decidable (∀ c ∈ l, 33 ≤ c))
structure Fw (a : F) : Prop where
  r : rdF (wr a) = some a
  w : Cw (wr a)
theorem cw_dg (n : Nat) : Cw (dg n) := fun c hc => by have := dg_all n c hc; omega
theorem rdN_dg {n : Nat} (h : n < 10 ^ 9) : rdN (dg n) = some n := by
  unfold rdN
  rw [if_pos ⟨dg_len h (by decide), dg_dec n⟩, dg_val]
theorem cw_no {l : List Nat} (h : Cw l) : 32 ∉ l := fun z => by have := h 32 z; omega
theorem spl_join {ps : List (List Nat)} (h0 : ps ≠ []) (h : ∀ p ∈ ps, Cw p) : splC 32 (joinC 32 ps) = ps := splC_uni h0 fun p hp => cw_no (h p hp)
theorem cw_c {ps : List (List Nat)} {a : List Nat} (ha : Cw a) (h : ∀ p ∈ ps, Cw p) : ∀ p ∈ a :: ps, Cw p := fun p hp => by
  rcases List.mem_cons.mp hp with rfl | hp
  · exact ha
  · exact h p hp
theorem cw_n : ∀ p ∈ ([] : List (List Nat)), Cw p := fun _ h => nomatch h
theorem cwP : Cw wPush := by decide
theorem cwS : Cw wSpeed := by decide
theorem cwF : Cw wForce := by decide
structure StepW (s : St3) : Prop where
  hp : ∀ v ∈ s.ps, v.1 < 10 ^ 9 ∧ Fw v.2.1 ∧ Fw v.2.2
  hs : ∀ v ∈ s.ss, Fw v.1 ∧ Fw v.2
  hf : ∀ v ∈ s.fs, (v.1.k = wApart ∨ v.1.k = wJoint) ∧ v.1.a < 10 ^ 9 ∧ v.1.b < 10 ^ 9 ∧ v.1.s < 10 ^ 9 ∧ Fw v.2
theorem spl_push {v : Nat × F × F} (h : v.1 < 10 ^ 9 ∧ Fw v.2.1 ∧ Fw v.2.2) : splC 32 (pushL v) = [wPush, dg v.1, wr v.2.1, wr v.2.2] :=
  spl_join (ps := [wPush, dg v.1, wr v.2.1, wr v.2.2]) (List.cons_ne_nil _ _) (cw_c cwP (cw_c (cw_dg _) (cw_c h.2.1.w (cw_c h.2.2.w cw_n))))
theorem spl_speed {v : F × F} (h : Fw v.1 ∧ Fw v.2) : splC 32 (speedL v) = [wSpeed, wr v.1, wr v.2] :=
  spl_join (ps := [wSpeed, wr v.1, wr v.2]) (List.cons_ne_nil _ _) (cw_c cwS (cw_c h.1.w (cw_c h.2.w cw_n)))
theorem cwK {k : List Nat} (h : k = wApart ∨ k = wJoint) : Cw k := by
  rcases h with rfl | rfl <;> decide
theorem spl_force {v : Nm4 × F} (h : (v.1.k = wApart ∨ v.1.k = wJoint) ∧ v.1.a < 10 ^ 9 ∧ v.1.b < 10 ^ 9 ∧ v.1.s < 10 ^ 9 ∧ Fw v.2) : splC 32 (forceL v) = [wForce, v.1.k, dg v.1.a, dg v.1.b, dg v.1.s, wr v.2] :=
  spl_join (ps := [wForce, v.1.k, dg v.1.a, dg v.1.b, dg v.1.s, wr v.2]) (List.cons_ne_nil _ _) (cw_c cwF (cw_c (cwK h.1) (cw_c (cw_dg _) (cw_c (cw_dg _) (cw_c (cw_dg _) (cw_c h.2.2.2.2.w cw_n))))))
theorem ne_step {l : List Nat} (h : (splC 32 l).length ≠ 1) : l ≠ wStep := fun z => h (by rw [z]; rfl)
theorem next_push {d : List St3} {c : St3} {v : Nat × F × F} (h : v.1 < 10 ^ 9 ∧ Fw v.2.1 ∧ Fw v.2.2) : nextL (some ⟨d, c, 0⟩) (pushL v) = some ⟨d, ⟨c.ps ++ [v], c.ss, c.fs⟩, 0⟩ := by
  have e := spl_push h
  have r : rdPush (pushL v) = some v := by
    unfold rdPush wds
    rw [e, if_pos ⟨rfl, rfl⟩]
    show rdP3 [dg v.1, wr v.2.1, wr v.2.2] = _
    unfold rdP3 rdV
    dsimp only
    rw [rdN_dg h.1, h.2.1.r, h.2.2.r]
  unfold nextL
  rw [if_neg (ne_step (by rw [e]; simp))]
  dsimp only
  rw [if_pos (by unfold word; rw [e]; rfl), if_pos (Nat.le_refl _), r]
  rfl
theorem next_speed {d : List St3} {c : St3} {p : Nat} (hp : p ≤ 1) {v : F × F} (h : Fw v.1 ∧ Fw v.2) : nextL (some ⟨d, c, p⟩) (speedL v) = some ⟨d, ⟨c.ps, c.ss ++ [v], c.fs⟩, 1⟩ := by
  have e := spl_speed h
  have r : rdSpeed (speedL v) = some v := by
    unfold rdSpeed wds
    rw [e, if_pos ⟨rfl, rfl⟩]
    show rdV [wr v.1, wr v.2] = _
    unfold rdV
    dsimp only
    rw [h.1.r, h.2.r]
  unfold nextL
  rw [if_neg (ne_step (by rw [e]; simp))]
  dsimp only
  rw [if_neg (by unfold word; rw [e]; show ¬ wSpeed = wPush; decide), if_pos (by unfold word; rw [e]; rfl), if_pos hp, r]
  rfl
theorem next_force {d : List St3} {c : St3} {p : Nat} {v : Nm4 × F} (h : (v.1.k = wApart ∨ v.1.k = wJoint) ∧ v.1.a < 10 ^ 9 ∧ v.1.b < 10 ^ 9 ∧ v.1.s < 10 ^ 9 ∧ Fw v.2) : nextL (some ⟨d, c, p⟩) (forceL v) = some ⟨d, ⟨c.ps, c.ss, c.fs ++ [v]⟩, 2⟩ := by
  have e := spl_force h
  have r : rdForce (forceL v) = some v := by
    unfold rdForce wds
    rw [e, if_pos ⟨rfl, rfl⟩]
    show rdFo [v.1.k, dg v.1.a, dg v.1.b, dg v.1.s, wr v.2] = _
    unfold rdFo
    dsimp only
    rw [if_pos h.1, rdN_dg h.2.1, rdN_dg h.2.2.1, rdN_dg h.2.2.2.1, h.2.2.2.2.r]
  unfold nextL
  rw [if_neg (ne_step (by rw [e]; simp))]
  dsimp only
  rw [if_neg (by unfold word; rw [e]; show ¬ wForce = wPush; decide), if_neg (by unfold word; rw [e]; show ¬ wForce = wSpeed; decide), if_pos (by unfold word; rw [e]; rfl), r]
  rfl
theorem runL_app : ∀ (ls ms : List (List Nat)) (s : Option RS), runL s (ls ++ ms) = (runL s ls).bind fun s => runL s ms
  | [], ms, s => rfl
  | l :: ls, ms, s => by
    have e : ∀ ks, runL s (l :: ks) = match nextL s l with
      | none => none
      | some r => runL (some r) ks := fun ks => by rw [runL]
    show runL s (l :: (ls ++ ms)) = _
    rw [e, e]
    cases nextL s l with
    | none => rfl
    | some r => exact runL_app ls ms (some r)
theorem run_push : ∀ {vs : List (Nat × F × F)} {d : List St3} {c : St3}, (∀ v ∈ vs, v.1 < 10 ^ 9 ∧ Fw v.2.1 ∧ Fw v.2.2) → runL (some ⟨d, c, 0⟩) (vs.map pushL) = some (some ⟨d, ⟨c.ps ++ vs, c.ss, c.fs⟩, 0⟩)
  | [], d, c, _ => by simp [runL]
  | v :: vs, d, c, h => by
    rw [List.map_cons]
    unfold runL
    rw [next_push (h v List.mem_cons_self)]
    dsimp only
    rw [run_push fun w hw => h w (List.mem_cons_of_mem _ hw)]
    simp
theorem run_speed : ∀ {vs : List (F × F)} {d : List St3} {c : St3} {p : Nat}, p ≤ 1 → (∀ v ∈ vs, Fw v.1 ∧ Fw v.2) → ∃ q, q ≤ 1 ∧ runL (some ⟨d, c, p⟩) (vs.map speedL) = some (some ⟨d, ⟨c.ps, c.ss ++ vs, c.fs⟩, q⟩)
  | [], d, c, p, hp, _ => ⟨p, hp, by simp [runL]⟩
  | v :: vs, d, c, p, hp, h => by
    obtain ⟨q, hq, e⟩ := run_speed (vs := vs) (d := d) (c := ⟨c.ps, c.ss ++ [v], c.fs⟩) (p := 1) (Nat.le_refl _) fun w hw => h w (List.mem_cons_of_mem _ hw)
    refine ⟨q, hq, ?_⟩
    rw [List.map_cons]
    unfold runL
    rw [next_speed hp (h v List.mem_cons_self)]
    dsimp only
    rw [e]
    simp
theorem run_force : ∀ {vs : List (Nm4 × F)} {d : List St3} {c : St3} {p : Nat}, (∀ v ∈ vs, (v.1.k = wApart ∨ v.1.k = wJoint) ∧ v.1.a < 10 ^ 9 ∧ v.1.b < 10 ^ 9 ∧ v.1.s < 10 ^ 9 ∧ Fw v.2) → ∃ q, runL (some ⟨d, c, p⟩) (vs.map forceL) = some (some ⟨d, ⟨c.ps, c.ss, c.fs ++ vs⟩, q⟩)
  | [], d, c, p, _ => ⟨p, by simp [runL]⟩
  | v :: vs, d, c, p, h => by
    obtain ⟨q, e⟩ := run_force (vs := vs) (d := d) (c := ⟨c.ps, c.ss, c.fs ++ [v]⟩) (p := 2) fun w hw => h w (List.mem_cons_of_mem _ hw)
    refine ⟨q, ?_⟩
    rw [List.map_cons]
    unfold runL
    rw [next_force (h v List.mem_cons_self)]
    dsimp only
    rw [e]
    simp
theorem run_step {s : Option RS} {x : St3} (h : StepW x) : ∃ q, runL s (stLines x) = some (some ⟨stepsOf s, x, q⟩) := by
  obtain ⟨q1, hq, e1⟩ := run_speed (d := stepsOf s) (c := ⟨x.ps, [], []⟩) (p := 0) (by decide) h.hs
  obtain ⟨q2, e2⟩ := run_force (d := stepsOf s) (c := ⟨x.ps, x.ss, []⟩) (p := q1) h.hf
  refine ⟨q2, ?_⟩
  unfold stLines runL
  have e0 : nextL s wStep = some ⟨stepsOf s, ⟨[], [], []⟩, 0⟩ := if_pos rfl
  rw [e0]
  dsimp only
  rw [runL_app, run_push h.hp]
  dsimp only [Option.bind]
  rw [runL_app]
  have e1' : runL (some ⟨stepsOf s, ⟨[] ++ x.ps, [], []⟩, 0⟩) (x.ss.map speedL) = some (some ⟨stepsOf s, ⟨x.ps, [] ++ x.ss, []⟩, q1⟩) := e1
  rw [e1']
  exact e2
theorem run_all : ∀ {rs : List St3} {s : Option RS}, (∀ x ∈ rs, StepW x) → ∃ s', runL s (linesAll rs) = some s' ∧ stepsOf s' = stepsOf s ++ rs
  | [], s, _ => ⟨s, rfl, (List.append_nil _).symm⟩
  | x :: rs, s, h => by
    obtain ⟨q, e⟩ := run_step (s := s) (h x List.mem_cons_self)
    obtain ⟨s', e1, e2⟩ := run_all (rs := rs) (s := some ⟨stepsOf s, x, q⟩) fun y hy => h y (List.mem_cons_of_mem _ hy)
    refine ⟨s', ?_, ?_⟩
    · show runL s (stLines x ++ linesAll rs) = _
      rw [runL_app, e]
      exact e1
    · rw [e2]
      show (stepsOf s ++ [x]) ++ rs = _
      rw [List.append_assoc]
      rfl
/-! ### lines are parted as they were -/
def Cl (l : List Nat) : Prop := 10 ∉ l
instance (l : List Nat) : Decidable (Cl l) := inferInstanceAs (Decidable (¬ 10 ∈ l))
theorem cl_w {l : List Nat} (h : Cw l) : Cl l := fun z => by have := h 10 z; omega
theorem cl_cons {a b : List Nat} (ha : Cl a) (hb : Cl b) : Cl (a ++ 32 :: b) := fun z => by
  rcases List.mem_append.mp z with z | z
  · exact ha z
  · rcases List.mem_cons.mp z with z | z
    · cases z
    · exact hb z
theorem cl_lines {x : St3} (h : StepW x) : ∀ l ∈ stLines x, Cl l := fun l hl => by
  unfold stLines at hl
  rcases List.mem_cons.mp hl with rfl | hl
  · decide
  rcases List.mem_append.mp hl with hl | hl
  · obtain ⟨v, hv, rfl⟩ := List.mem_map.mp hl
    have := h.hp v hv
    exact cl_cons (cl_w cwP) (cl_cons (cl_w (cw_dg _)) (cl_cons (cl_w this.2.1.w) (cl_w this.2.2.w)))
  rcases List.mem_append.mp hl with hl | hl
  · obtain ⟨v, hv, rfl⟩ := List.mem_map.mp hl
    have := h.hs v hv
    exact cl_cons (cl_w cwS) (cl_cons (cl_w this.1.w) (cl_w this.2.w))
  · obtain ⟨v, hv, rfl⟩ := List.mem_map.mp hl
    have := h.hf v hv
    exact cl_cons (cl_w cwF) (cl_cons (cl_w (cwK this.1)) (cl_cons (cl_w (cw_dg _)) (cl_cons (cl_w (cw_dg _)) (cl_cons (cl_w (cw_dg _)) (cl_w this.2.2.2.2.w)))))
theorem cl_all {rs : List St3} (h : ∀ x ∈ rs, StepW x) : ∀ l ∈ linesAll rs, Cl l := fun l hl => by
  unfold linesAll at hl
  obtain ⟨m, hm, hl⟩ := List.mem_flatten.mp hl
  obtain ⟨x, hx, rfl⟩ := List.mem_map.mp hm
  exact cl_lines (h x hx) l hl
theorem lns_glue {ls : List (List Nat)} (h : ∀ l ∈ ls, Cl l) : lns (glue ls) = some ls := by
  by_cases h0 : ls = []
  · rw [h0]; rfl
  have e := glue_join h0
  unfold lns
  rw [← e, if_neg (by simp), if_pos (by simp), List.dropLast_concat, splC_uni h0 h]
theorem rdRun_text {rs : List St3} (h : ∀ x ∈ rs, StepW x) : rdRun (textOf rs) = some rs := by
  obtain ⟨s, e1, e2⟩ := run_all (s := none) h
  unfold rdRun textOf
  rw [lns_glue (cl_all h)]
  show (runL none (linesAll rs)).map stepsOf = _
  rw [e1]
  show some (stepsOf s) = _
  rw [e2]
  rfl
theorem next_nil (s : Option RS) : nextL s [] = none := by
  unfold nextL
  rw [if_neg (by decide)]
  cases s with
  | none => rfl
  | some r =>
    dsimp only
    rw [if_neg (by decide), if_neg (by decide), if_neg (by decide)]
theorem runL_bad : ∀ (ls : List (List Nat)) (s : Option RS), runL s (ls ++ [[]]) = none := fun ls s => by
  rw [runL_app]
  cases runL s ls with
  | none => rfl
  | some s =>
    show runL s [[]] = none
    unfold runL
    rw [next_nil]
theorem rdRun_lf {rs : List St3} (h : ∀ x ∈ rs, StepW x) : rdRun (textOf rs ++ [10]) = none := by
  have e : textOf rs ++ [10] = glue (linesAll rs ++ [[]]) := by unfold textOf glue; simp
  unfold rdRun
  rw [e, lns_glue (fun l hl => by
    rcases List.mem_append.mp hl with hl | hl
    · exact cl_all h l hl
    · rw [List.mem_singleton.mp hl]; decide)]
  show (runL none (linesAll rs ++ [[]])).map stepsOf = _
  rw [runL_bad]
  rfl
theorem rdRun_no {t : List Nat} (h0 : t ≠ []) (h : t.getLast? ≠ some 10) : rdRun t = none := by
  unfold rdRun lns
  rw [if_neg h0, if_neg h]
  rfl
theorem rdRun_nil : rdRun [] = some [] := by rfl
theorem rdRun_speed : rdRun [115, 112, 101, 101, 100, 32, 48, 32, 48, 10] = none := by rfl
end TR

/-! a list of steps, each a tuple of three lists, the last one still grows; tuple.index; comprehensions told as lists -/
namespace PL
open PySem PySem.Spec PyProof.Rows L2
variable [Nm]
section
variable {K : PySem.W.Frag} {ρ : Rho} {I J L N : Asn} {ta tb tc te : TE} {tr : TA} {x y : PyData} {ts us : TS} {k : Out}
structure P3 where
  p : List PyData
  s : List PyData
  f : List PyData
def P3.d (c : P3) : PyData := .tuple [.list c.p, .list c.s, .list c.f]
structure A4 where
  t : Addr
  a : Addr
  b : Addr
  c : Addr
/-- the steps, the last one of lists that grow -/
def sA (K : PySem.W.Frag) (q : Addr) (w : A4) (ds : List PyData) (c : P3) : Asn := ⟨fun z => z = q ∨ z = w.a ∨ z = w.b ∨ z = w.c, fun G H =>
    (G q = none ∧ ∃ vs : List V, H q = some (.lst (vs ++ [V.ref w.t])) ∧ DpAll K G vs ds) ∧ G w.t = some (.tup [.ref w.a, .ref w.b, .ref w.c]) ∧
    (lA K w.a c.p).ok G H ∧ (lA K w.b c.s).ok G H ∧ (lA K w.c c.f).ok G H,
  fun M G H G2 H2 n s ⟨⟨g, vs, h, r⟩, ht, ha, hb, hc⟩ => ⟨⟨s.fr q _ (n q (.inl rfl)) h g, vs, (show Kpt (.lst (vs ++ [.ref w.t])) (H2 q) from s.hh q _ (n q (.inl rfl)) h), dp_monos s.gg _ _ r⟩, s.gg _ _ ht,
    (lA K w.a c.p).st M G H G2 H2 (fun z e => n z (.inr (.inl e))) s ha, (lA K w.b c.s).st M G H G2 H2 (fun z e => n z (.inr (.inr (.inl e)))) s hb, (lA K w.c c.f).st M G H G2 H2 (fun z e => n z (.inr (.inr (.inr e)))) s hc⟩,
  fun G H z ⟨⟨_, vs, h, _⟩, _, ha, hb, hc⟩ e => by
    rcases e with e | e | e | e
    · exact ⟨_, by rw [e]; exact h⟩
    · exact (lA K w.a c.p).own G H z ha e
    · exact (lA K w.b c.s).own G H z hb e
    · exact (lA K w.c c.f).own G H z hc e⟩
structure A4.ok (w : A4) (q : Addr) : Prop where
  qa : q ≠ w.a
  qb : q ≠ w.b
  qc : q ≠ w.c
  ab : w.a ≠ w.b
  ac : w.a ≠ w.c
  bc : w.b ≠ w.c
abbrev sJ (K : PySem.W.Frag) (q : Addr) (w : A4) (ds : List PyData) (c : P3) (J : Asn) : Asn := (sA K q w ds c).and J
abbrev rApp3 : TE := tTup (tCons (tLst tNil) (tCons (tLst tNil) (tCons (tLst tNil) tNil)))
/-- all is frozen: the steps are a list as data in another G -/
theorem frz3 {q : Addr} {w : A4} {ds : List PyData} {c : P3} {G H : Hp} (ok : w.ok q) (gh : Same G H) (h : (sA K q w ds c).ok G H) : ∃ G2, Stp (fun z => z = w.a ∨ z = w.b ∨ z = w.c) G H G2 H ∧ (lA K q (ds ++ [c.d])).ok G2 H := by
  obtain ⟨⟨gq, vs, hq, r⟩, ht, ⟨ga, as, ha, ra⟩, ⟨gb, bs, hb, rb⟩, ⟨gc, cs, hc, rc⟩⟩ := h
  have s1 : Stp (· = w.a) G H (upd G w.a (.lst as)) H := Stp.frz gh ga ha
  have gb1 : upd G w.a (.lst as) w.b = none := by rw [upd_ne (fun z => ok.ab z.symm)]; exact gb
  have s2 : Stp (· = w.b) (upd G w.a (.lst as)) H (upd (upd G w.a (.lst as)) w.b (.lst bs)) H := Stp.frz s1.gh gb1 hb
  have gc1 : upd (upd G w.a (.lst as)) w.b (.lst bs) w.c = none := by
    rw [upd_ne (fun z => ok.bc z.symm), upd_ne (fun z => ok.ac z.symm)]
    exact gc
  have s3 : Stp (· = w.c) (upd (upd G w.a (.lst as)) w.b (.lst bs)) H (upd (upd (upd G w.a (.lst as)) w.b (.lst bs)) w.c (.lst cs)) H := Stp.frz s2.gh gc1 hc
  have s : Stp (fun z => z = w.a ∨ z = w.b ∨ z = w.c) G H (upd (upd (upd G w.a (.lst as)) w.b (.lst bs)) w.c (.lst cs)) H :=
    ((s1.wide fun z e => .inl e).trans (s2.wide fun z e => .inr (.inl e))).trans (s3.wide fun z e => .inr (.inr e))
  refine ⟨_, s, ?_, vs ++ [.ref w.t], hq, ?_⟩
  · rw [upd_ne ok.qc, upd_ne ok.qb, upd_ne ok.qa]
    exact gq
  · refine dpa_app (dp_monos s.gg _ _ r) (.cons ?_ .nil)
    refine .tup (.inl (.inl (s.gg _ _ ht))) (.cons ?_ (.cons ?_ (.cons ?_ .nil)))
    · refine .lst (.inl (.inl ?_)) (dp_monos s.gg _ _ ra)
      rw [upd_ne ok.ac, upd_ne ok.ab, upd_same]
    · refine .lst (.inl (.inl ?_)) (dp_monos s.gg _ _ rb)
      rw [upd_ne ok.bc, upd_same]
    · exact .lst (.inl (.inl upd_same)) (dp_monos s.gg _ _ rc)
theorem sqt_keep {G : Hp} : True := trivial
/-- steps.append(([], [], [])), the steps being all told -/
theorem s_step {i : Nat} {q : Addr} {ds : List PyData} (hi : ρ[i]? = some (some (.r q))) (hl : ds.length < 100000) (hf : ¬ J.foot q) (h : ∀ w : A4, w.ok q → (∀ z, z = w.a ∨ z = w.b ∨ z = w.c → ¬ J.foot z) → S K us ρ (sJ K q w ds ⟨[], [], []⟩ J) k) :
    S K (tSeq (tDrop (tBM K "list" rAppend (tVar i) (tCons rApp3 tNil))) us) ρ (lJ K q ds J) k := fun G H σ D gh en io f => by
  obtain ⟨v, hv, dv⟩ := env_get en hi
  obtain rfl : v = .ref q := dv
  obtain ⟨⟨gq, vs, hq, r⟩, jo⟩ := io
  refine ⟨.ref q, hv, .inl ⟨rfl, _, .inl (.inl hq)⟩, ?_⟩
  refine ⟨by decide, fun a ha => ⟨by decide, fun b hb => ⟨by decide, fun c hc => ⟨(show 3 ≤ sizeLine by decide), fun t ht => ?_⟩⟩⟩⟩
  have sa := Stp.newM (o := HO.lst []) gh ha
  have sb := Stp.newM (o := HO.lst []) sa.gh hb
  have sc := Stp.newM (o := HO.lst []) sb.gh hc
  have st := Stp.new (o := HO.tup [.ref a, .ref b, .ref c]) sc.gh ht
  have n1 : q ≠ a := ne_of_none hq ha
  have n2 : q ≠ b := fun z => by rw [← z, upd_ne n1, hq] at hb; cases hb
  have n4 : a ≠ b := fun z => by rw [← z, upd_same] at hb; cases hb
  have n3 : q ≠ c := fun z => by rw [← z, upd_ne n2, upd_ne n1, hq] at hc; cases hc
  have n5 : a ≠ c := fun z => by rw [← z, upd_ne n4, upd_same] at hc; cases hc
  have n6 : b ≠ c := fun z => by rw [← z, upd_same] at hc; cases hc
  have m1 : q ≠ t := fun z => by rw [← z, upd_ne n3, upd_ne n2, upd_ne n1, hq] at ht; cases ht
  have m2 : a ≠ t := fun z => by rw [← z, upd_ne n5, upd_ne n4, upd_same] at ht; cases ht
  have m3 : b ≠ t := fun z => by rw [← z, upd_ne n6, upd_same] at ht; cases ht
  have m4 : c ≠ t := fun z => by rw [← z, upd_same] at ht; cases ht
  have hq4 : upd (upd (upd (upd H a (.lst [])) b (.lst [])) c (.lst [])) t (.tup [.ref a, .ref b, .ref c]) q = some (.lst vs) := by
    rw [upd_ne m1, upd_ne n3, upd_ne n2, upd_ne n1]
    exact hq
  refine ⟨q, vs, .ref t, rfl, rfl, hq4, ?_, ?_⟩
  · rw [dpa_len r]
    exact Nat.lt_of_lt_of_le hl (by rw [sizeLine_eq]; decide)
  have gq2 : upd G t (.tup [.ref a, .ref b, .ref c]) q = none := by rw [upd_ne m1]; exact gq
  have s5 := Stp.store (o := HO.lst (vs ++ [.ref t])) st.gh gq2 hq4
  have all : Stp (· = q) G H (upd G t (.tup [.ref a, .ref b, .ref c])) (upd (upd (upd (upd (upd H a (.lst [])) b (.lst [])) c (.lst [])) t (.tup [.ref a, .ref b, .ref c])) q (.lst (vs ++ [.ref t]))) :=
    ((((sa.trans sb).trans sc).trans st).wide fun _ z => z.elim).trans s5
  have ga : G a = none := gh.free ha
  have gb : G b = none := sa.gh.free hb
  have gc : G c = none := sb.gh.free hc
  have nf : ∀ z, z = a ∨ z = b ∨ z = c → ¬ J.foot z := fun z e fz => by
    obtain ⟨o, ho⟩ := J.own G H z jo fz
    rcases e with rfl | rfl | rfl
    · rw [ha] at ho; cases ho
    · rw [upd_ne (fun e => n4 e.symm)] at hb
      rw [hb] at ho; cases ho
    · rw [upd_ne (fun e => n6 e.symm), upd_ne (fun e => n5 e.symm)] at hc
      rw [hc] at ho; cases ho
  refine h ⟨t, a, b, c⟩ ⟨n1, n2, n3, n4, n5, n6⟩ nf _ _ σ D all.gh (env_mono all.gg en) ⟨⟨⟨gq2, vs, upd_same, dp_monos all.gg _ _ r⟩, upd_same, ⟨?_, [], ?_, .nil⟩, ⟨?_, [], ?_, .nil⟩, ⟨?_, [], ?_, .nil⟩⟩, J.st _ _ _ _ _ (fun z fz (e : z = q) => hf (e ▸ fz)) all jo⟩ (f.mono all.gg)
  · show upd G t _ a = none
    rw [upd_ne m2]; exact ga
  · show upd _ q _ a = _
    rw [upd_ne n1.symm, upd_ne m2, upd_ne n5, upd_ne n4, upd_same]
  · show upd G t _ b = none
    rw [upd_ne m3]; exact gb
  · show upd _ q _ b = _
    rw [upd_ne n2.symm, upd_ne m3, upd_ne n6, upd_same]
  · show upd G t _ c = none
    rw [upd_ne m4]; exact gc
  · show upd _ q _ c = _
    rw [upd_ne n3.symm, upd_ne m4, upd_same]
/-- the last step is told as the others -/
theorem s_told {i : Nat} {q : Addr} {w : A4} {ds : List PyData} {c : P3} (ok : w.ok q) (nf : ∀ z, z = w.a ∨ z = w.b ∨ z = w.c → ¬ J.foot z) (h : S K us ρ (lJ K q (ds ++ [c.d]) J) k) : S K us ρ (sJ K q w ds c J) k := fun G H σ D gh en io f => by
  obtain ⟨so, jo⟩ := io
  obtain ⟨G2, st, lo⟩ := frz3 ok gh so
  exact h G2 H σ D st.gh (env_mono st.gg en) ⟨lo, J.st _ _ _ _ _ (fun z fz e => nf z e fz) st jo⟩ (f.mono st.gg)
theorem at_last {vs : List V} {z : V} : atI (vs ++ [z]) (-1) = some z := by
  have e : atI (vs ++ [z]) (-1) = ((if 1 ≤ (vs.length : Int) + 1 then some (-1 + ((vs.length : Int) + 1)).toNat else none).bind fun j => (vs ++ [z])[j]?) := by simp [atI, ixN]
  rw [e, if_pos (by omega), show (-1 + ((vs.length : Int) + 1)).toNat = vs.length by omega]
  show (vs ++ [z])[vs.length]? = some z
  rw [List.getElem?_append_right (Nat.le_refl _), Nat.sub_self]
  rfl
def P3.at (c : P3) : Nat → List PyData
  | 0 => c.p
  | 1 => c.s
  | _ => c.f
def P3.add (c : P3) (j : Nat) (x : PyData) : P3 := match j with
  | 0 => ⟨c.p ++ [x], c.s, c.f⟩
  | 1 => ⟨c.p, c.s ++ [x], c.f⟩
  | _ => ⟨c.p, c.s, c.f ++ [x]⟩
/-- steps[-1][part].append(..) -/
theorem s_appS {i : Nat} {q : Addr} {w : A4} {ds : List PyData} {c : P3} {j : Nat} (ok : w.ok q) (nf : ∀ z, z = w.a ∨ z = w.b ∨ z = w.c → ¬ J.foot z) (hj : j < 3) (hi : ρ[i]? = some (some (.r q))) (hb : E K tb ρ (sJ K q w ds c J) (.i (-1)) (sJ K q w ds c J)) (hc : E K tc ρ (sJ K q w ds c J) (.i (j : Nat)) (sJ K q w ds c J))
    (he : E K te ρ (sJ K q w ds c J) (.d x) L) (hL : ∀ G H, L.ok G H → (sJ K q w ds c J).ok G H) (hl : (c.at j).length < 100000) :
    S K (tDrop (tBM K "list" rAppend (tOp (rIxT K) (tOp (rIxL K) (tVar i) tb) tc) (tCons te tNil))) ρ (sJ K q w ds c J) (.nx ρ (sJ K q w ds (c.add j x) J)) := fun G H σ D gh en io f => by
  obtain ⟨v, hv, dv⟩ := env_get en hi
  obtain rfl : v = .ref q := dv
  refine ⟨.ref q, hv, hb G H σ gh en io _ fun m G1 H1 g1 gh1 j1 dm => ?_⟩
  obtain rfl : m = .int (-1) := by cases dm; rfl
  have j1' := j1
  obtain ⟨⟨⟨gq, vs, hq, r⟩, ht, _⟩, _⟩ := j1'
  refine ⟨q, vs ++ [.ref w.t], -1, .ref w.t, rfl, rfl, .inl (.inl hq), at_last, hc G1 H1 σ gh1 (env_mono g1 en) j1 _ fun n G2 H2 g2 gh2 j2 dn => ?_⟩
  obtain rfl : n = .int (j : Nat) := by cases dn; rfl
  have j2' := j2
  obtain ⟨⟨_, ht2, ⟨_, as2, ha2, ra2⟩, ⟨_, bs2, hb2, rb2⟩, ⟨_, cs2, hc2, rc2⟩⟩, _⟩ := j2'
  have key : ∃ l, [V.ref w.a, .ref w.b, .ref w.c][j]? = some (.ref l) ∧ (∃ ys, H2 l = some (.lst ys)) ∧
      (∀ G3 H3, Same G3 H3 → (sJ K q w ds c J).ok G3 H3 → ∀ z : V, Dp K G3 z x → ∃ ys, H3 l = some (.lst ys) ∧ ys.length < sizeLine ∧ Stp (· = l) G3 H3 G3 (upd H3 l (.lst (ys ++ [z]))) ∧ (sJ K q w ds (c.add j x) J).ok G3 (upd H3 l (.lst (ys ++ [z])))) := by
    have lt : ∀ {as : List V} {xs : List PyData} {G3 : Hp}, xs.length < 100000 → DpAll K G3 as xs → as.length < sizeLine := fun h r => by
      rw [dpa_len r]
      exact Nat.lt_of_lt_of_le h (by rw [sizeLine_eq]; decide)
    have j012 : j = 0 ∨ j = 1 ∨ j = 2 := by omega
    rcases j012 with rfl | rfl | rfl
    · refine ⟨w.a, rfl, ⟨_, ha2⟩, fun G3 H3 gh3 ⟨⟨⟨gq3, vs3, hq3, r3⟩, ht3, ⟨ga3, as3, ha3, ra3⟩, b3, c3⟩, jo3⟩ z dz => ⟨as3, ha3, lt hl ra3, ?_⟩⟩
      have s := Stp.store (o := HO.lst (as3 ++ [z])) gh3 ga3 ha3
      refine ⟨s, ⟨⟨gq3, vs3, by rw [upd_ne ok.qa]; exact hq3, r3⟩, ht3, ⟨ga3, _, upd_same, dpa_app ra3 (.cons dz .nil)⟩, (lA K w.b c.s).st _ _ _ _ _ (fun y (e : y = w.b) (e2 : y = w.a) => ok.ab (e2.symm.trans e)) s b3, (lA K w.c c.f).st _ _ _ _ _ (fun y (e : y = w.c) (e2 : y = w.a) => ok.ac (e2.symm.trans e)) s c3⟩, J.st _ _ _ _ _ (fun y fy (e : y = w.a) => nf y (.inl e) fy) s jo3⟩
    · refine ⟨w.b, rfl, ⟨_, hb2⟩, fun G3 H3 gh3 ⟨⟨⟨gq3, vs3, hq3, r3⟩, ht3, a3, ⟨ga3, as3, ha3, ra3⟩, c3⟩, jo3⟩ z dz => ⟨as3, ha3, lt hl ra3, ?_⟩⟩
      have s := Stp.store (o := HO.lst (as3 ++ [z])) gh3 ga3 ha3
      refine ⟨s, ⟨⟨gq3, vs3, by rw [upd_ne ok.qb]; exact hq3, r3⟩, ht3, (lA K w.a c.p).st _ _ _ _ _ (fun y (e : y = w.a) (e2 : y = w.b) => ok.ab (e.symm.trans e2)) s a3, ⟨ga3, _, upd_same, dpa_app ra3 (.cons dz .nil)⟩, (lA K w.c c.f).st _ _ _ _ _ (fun y (e : y = w.c) (e2 : y = w.b) => ok.bc (e2.symm.trans e)) s c3⟩, J.st _ _ _ _ _ (fun y fy (e : y = w.b) => nf y (.inr (.inl e)) fy) s jo3⟩
    · refine ⟨w.c, rfl, ⟨_, hc2⟩, fun G3 H3 gh3 ⟨⟨⟨gq3, vs3, hq3, r3⟩, ht3, a3, b3, ⟨ga3, as3, ha3, ra3⟩⟩, jo3⟩ z dz => ⟨as3, ha3, lt hl ra3, ?_⟩⟩
      have s := Stp.store (o := HO.lst (as3 ++ [z])) gh3 ga3 ha3
      refine ⟨s, ⟨⟨gq3, vs3, by rw [upd_ne ok.qc]; exact hq3, r3⟩, ht3, (lA K w.a c.p).st _ _ _ _ _ (fun y (e : y = w.a) (e2 : y = w.c) => ok.ac (e.symm.trans e2)) s a3, (lA K w.b c.s).st _ _ _ _ _ (fun y (e : y = w.b) (e2 : y = w.c) => ok.bc (e.symm.trans e2)) s b3, ⟨ga3, _, upd_same, dpa_app ra3 (.cons dz .nil)⟩⟩, J.st _ _ _ _ _ (fun y fy (e : y = w.c) => nf y (.inr (.inr e)) fy) s jo3⟩
  obtain ⟨l, e1, ⟨ys, e2⟩, e3⟩ := key
  refine ⟨w.t, _, (j : Nat), .ref l, rfl, rfl, .inl (.inl (gh2 _ _ ht2)), atI_nat e1, .inl ⟨rfl, _, .inl (.inl e2)⟩, ?_⟩
  refine he G2 H2 σ gh2 (env_mono (g1.trans g2) en) j2 _ fun z G3 H3 g3 gh3 j3 dz => ?_
  obtain ⟨zs, h1, h2, h3, h4⟩ := e3 G3 H3 gh3 (hL _ _ j3) z dz
  exact ⟨l, zs, z, rfl, rfl, h1, h2, f G3 _ σ ((g1.trans g2).trans g3) h3.gh (env_mono ((g1.trans g2).trans g3) en) h4⟩
/-- steps[-1][part].append(f(..)), f raises -/
theorem s_appSE {i : Nat} {q : Addr} {w : A4} {ds : List PyData} {c : P3} {j : Nat} {d : Dat} (hj : j < 3) (hi : ρ[i]? = some (some (.r q))) (hb : E K tb ρ (sJ K q w ds c J) (.i (-1)) (sJ K q w ds c J)) (hc : E K tc ρ (sJ K q w ds c J) (.i (j : Nat)) (sJ K q w ds c J))
    (he : E K te ρ (sJ K q w ds c J) d L) (hL : ∀ G H, ¬ L.ok G H) :
    S K (tDrop (tBM K "list" rAppend (tOp (rIxT K) (tOp (rIxL K) (tVar i) tb) tc) (tCons te tNil))) ρ (sJ K q w ds c J) k := fun G H σ D gh en io f => by
  obtain ⟨v, hv, dv⟩ := env_get en hi
  obtain rfl : v = .ref q := dv
  refine ⟨.ref q, hv, hb G H σ gh en io _ fun m G1 H1 g1 gh1 j1 dm => ?_⟩
  obtain rfl : m = .int (-1) := by cases dm; rfl
  have j1' := j1
  obtain ⟨⟨⟨gq, vs, hq, r⟩, ht, _⟩, _⟩ := j1'
  refine ⟨q, vs ++ [.ref w.t], -1, .ref w.t, rfl, rfl, .inl (.inl hq), at_last, hc G1 H1 σ gh1 (env_mono g1 en) j1 _ fun n G2 H2 g2 gh2 j2 dn => ?_⟩
  obtain rfl : n = .int (j : Nat) := by cases dn; rfl
  have j2' := j2
  obtain ⟨⟨_, ht2, ⟨_, as2, ha2, ra2⟩, ⟨_, bs2, hb2, rb2⟩, ⟨_, cs2, hc2, rc2⟩⟩, _⟩ := j2'
  have key : ∃ l, [V.ref w.a, .ref w.b, .ref w.c][j]? = some (.ref l) ∧ (∃ ys, H2 l = some (.lst ys)) := by
    have j012 : j = 0 ∨ j = 1 ∨ j = 2 := by omega
    rcases j012 with rfl | rfl | rfl
    · exact ⟨w.a, rfl, _, ha2⟩
    · exact ⟨w.b, rfl, _, hb2⟩
    · exact ⟨w.c, rfl, _, hc2⟩
  obtain ⟨l, e1, ⟨ys, e2⟩⟩ := key
  refine ⟨w.t, _, (j : Nat), .ref l, rfl, rfl, .inl (.inl (gh2 _ _ ht2)), atI_nat e1, .inl ⟨rfl, _, .inl (.inl e2)⟩, ?_⟩
  exact he G2 H2 σ gh2 (env_mono (g1.trans g2) en) j2 _ fun z G3 H3 g3 gh3 j3 dz => absurd j3 (hL _ _)
theorem s_no : S K ts ρ .no k := fun G H σ D gh en io f => io.elim
theorem iw_no {wi : TI} {n : Nat} {xs : Nat → PyData} : IW K wi ρ .no n xs .no := fun G H σ gh en io R r => io.elim
/-- steps == [] -/
theorem t_noSteps {i : Nat} {q : Addr} (hi : ρ[i]? = some (some (.r q))) : T K (tTest (tOp (rEqD K) (tVar i) (tLst tNil))) ρ (lJ K q [] J) true (lJ K q [] J) := fun G H σ gh en io Q f => by
  obtain ⟨v, hv, dv⟩ := env_get en hi
  obtain rfl : v = .ref q := dv
  have io' := io
  obtain ⟨⟨gq, vs, hq, r⟩, jo⟩ := io
  cases r
  refine ⟨.ref q, hv, by decide, fun p hp => ⟨.list [], .list [], .lst (.inl (.inl ?_)) .nil, .lst (.inl (.inl upd_same)) .nil, by decide, by decide, true, ?_, ?_⟩⟩
  · rw [upd_ne (ne_of_none hq hp)]; exact hq
  · rfl
  · have s := Stp.newM (o := HO.lst []) gh hp
    exact f G _ s.gg s.gh (Asn.pure_st s io')
theorem t_someSteps {i : Nat} {q : Addr} {w : A4} {ds : List PyData} {c : P3} (ok : w.ok q) (hi : ρ[i]? = some (some (.r q))) (sh : SeqAt.shaped (.list (ds ++ [c.d])) = true) : T K (tTest (tOp (rEqD K) (tVar i) (tLst tNil))) ρ (sJ K q w ds c J) false (sJ K q w ds c J) := fun G H σ gh en io Q f => by
  obtain ⟨v, hv, dv⟩ := env_get en hi
  obtain rfl : v = .ref q := dv
  have io' := io
  obtain ⟨so, jo⟩ := io
  obtain ⟨G2, st, ⟨gq, vs, hq, r⟩⟩ := frz3 ok gh so
  refine ⟨.ref q, hv, by decide, fun p hp => ?_⟩
  have s := Stp.newM (o := HO.lst []) gh hp
  have s2 := Stp.newM (o := HO.lst []) st.gh hp
  refine ⟨.list (ds ++ [c.d]), .list [], .lst (.inl (.inl ?_)) (dp_monos s2.gh _ _ r), .lst (.inl (.inl upd_same)) .nil, sh, by decide, false, ?_, ?_⟩
  · rw [upd_ne (ne_of_none hq hp)]; exact hq
  · have e : PyData.eqv (.list (ds ++ [c.d])) (.list []) = false := by
      cases ds <;> rfl
    rw [e]
  · exact f G _ s.gg s.gh (Asn.pure_st s io')
/-- t.index(x), t a constant tuple of texts -/
theorem e_tindex {a : Addr} {ys : List Str} {z : Str} {j : Nat} {v : V} {G0 : Unit} (hk : ∃ o, K.lookup a = some o ∧ o.cls = .type "tuple" ∧ o.dict = none) (hs : ∀ G, SqT K G a (ys.map V.str)) (hb : E K tb ρ I (.d (.str z)) L) (hz : ys[j]? = some z) (hno : ∀ m, m < j → ys[m]? ≠ some z) :
    E K (tBM K "tuple" (fun x xs H Q => ∃ p, ∃ ys : List Str, ∃ z j, x = .ref p ∧ xs = [.str z] ∧ SqT K H p (ys.map V.str) ∧ ys[j]? = some z ∧ (∀ m, m < j → ys[m]? ≠ some z) ∧ Q (.int (j : Nat)) H) (tC (.ref a)) (tCons tb tNil)) ρ I (.i (j : Nat)) L := fun G H σ gh en io Q q => by
  refine ⟨.inr (.inl ⟨rfl, hk⟩), hb G H σ gh en io _ fun v G1 H1 g1 gh1 j1 dv => ?_⟩
  obtain rfl := dv_str dv
  exact ⟨a, ys, z, j, rfl, rfl, hs H1, hz, hno, q _ G1 H1 g1 gh1 j1 (.int _)⟩
/-- a comprehension, told as a new list -/
theorem e_lcWl {wi : TI} {g : TG} {vs : List Nat} {n : Nat} {xs : Nat → PyData} {es : List PyData} (hl : IW K wi ρ I n xs I) (hn : es.length = n) (hz : n ≤ 100000)
    (he : ∀ i y, i < n → es[i]? = some y → ∃ ρ', GW K g vs (xs i) (wipeR ρ vs) ρ' ∧ ∀ I', E K te ρ' I' (.d y) I') : E K (tLc wi g tYes te vs) ρ I (.l es) I := fun G H σ gh en io Q q =>
  hl G H σ gh en io _ fun Ji G1 H1 g1 gh1 j1 wk D hD => by
    have gD : G1 D = none := gh1.free hD
    have nD : ∀ a, I.foot a → ¬ a = D := fun a fa z => by
      obtain ⟨o, ho⟩ := I.own G1 H1 a j1 fa
      rw [z, hD] at ho
      cases ho
    have st0 := Stp.newM (o := HO.lst []) gh1 hD
    refine ⟨fun i m H' => m = n - i ∧ i ≤ n ∧ ∃ G', Same G1 G' ∧ Same G' H' ∧ I.ok G' H' ∧ (lA K D (es.take i)).ok G' H' ∧ Stp (· = D) G1 (upd H1 D (.lst [])) G' H', ⟨n, rfl, Nat.zero_le _, G1, Same.refl _, st0.gh, Asn.pure_st st0 j1, ⟨gD, [], upd_same, .nil⟩, Stp.refl st0.gh⟩, fun i m H' hw => ?_⟩
    obtain ⟨rfl, hi, G', a1, a2, a3, a4, a5⟩ := hw
    by_cases c : i < n
    · have hi3 : i < es.length := by omega
      obtain ⟨ρ', hg, hel⟩ := he i _ c (List.getElem?_eq_getElem hi3)
      refine .inr ⟨wk.go i G' H' c a1 a2, fun H2 => ∃ G2, Same G1 G2 ∧ Same G2 H2 ∧ I.ok G2 H2 ∧ (lA K D (es.take (i + 1))).ok G2 H2 ∧ Stp (· = D) G1 (upd H1 D (.lst [])) G2 H2, fun H2 z => ⟨n - (i + 1), by omega, rfl, c, z⟩, fun v H2 y => ?_⟩
      obtain ⟨G2, st, dp⟩ := wk.yld i G' H' v H2 c a1 a2 y
      refine hg G2 H2 _ v _ st.gh (env_wipe (env_mono ((g1.trans a1).trans st.gg) en) vs) dp fun σ' en' hw => ⟨hw.trans (wipe_wipe σ vs), ?_⟩
      refine hel (((lA K D (es.take i)).and I).and (Asn.since (· = D) G1 (upd H1 D (.lst [])))) G2 H2 _ st.gh en' ⟨⟨Asn.pure_st st a4, Asn.pure_st st a3⟩, a5.trans (st.wide fun _ z => z.elim)⟩ _ fun y G3 H3 g3 gh3 j3 dy => ?_
      obtain ⟨⟨⟨gq, ws, hq, r2⟩, i3⟩, st3⟩ := j3
      have st4 := Stp.store (o := HO.lst (ws ++ [y])) gh3 gq hq
      refine ⟨ws, hq, ?_, G3, (a1.trans st.gg).trans g3, st4.gh, I.st _ _ _ _ _ nD st4 i3, ⟨gq, _, upd_same, ?_⟩, st3.trans st4⟩
      · rw [dpa_len r2, List.length_take]
        exact Nat.lt_of_le_of_lt (Nat.min_le_left _ _) (Nat.lt_of_le_of_lt (show i ≤ 100000 by omega) (by decide))
      · rw [List.take_add_one, List.getElem?_eq_getElem hi3]
        exact dpa_app r2 (.cons dy .nil)
    · have ei : i = n := by omega
      subst ei
      obtain ⟨gq, ws, hq, r2⟩ := a4
      have st : Stp (· = D) G' H' (upd G' D (.lst ws)) H' := Stp.frz a2 gq hq
      refine .inl ⟨wk.stop G' H' a1 a2, q _ (upd G' D (.lst ws)) H' ((g1.trans a1).trans st.gg) st.gh (I.st _ _ _ _ _ nD st a3) ⟨D, ws, rfl, upd_same, dp_monos st.gg _ ws ?_⟩⟩
      rw [show es = es.take i by rw [List.take_of_length_le (by omega)]]
      exact r2
/-- a comprehension whose elements draw -/
theorem en_lcN {wi : TI} {g : TG} {vs : List Nat} {n : Nat} {xs : Nat → PyData} {p : Addr} {C : DS} (W : Nat → List PyData → DS → Prop) (w0 : W 0 [] C) (hf : ¬ J.foot p) (hl : IW K wi ρ I n xs (dJ K p C J)) (hz : n ≤ 100000) (hlen : ∀ i es C, W i es C → es.length = i)
    (he : ∀ i es C, i < n → W i es C → ∃ ρ', GW K g vs (xs i) (wipeR ρ vs) ρ' ∧ ∀ J' : Asn, ¬ J'.foot p → EN K te ρ' (dJ K p C J') fun d L => ∃ y C', d = .d y ∧ W (i + 1) (es ++ [y]) C' ∧ L = dJ K p C' J') :
    EN K (tLc wi g tYes te vs) ρ I fun d L => ∃ es C', W n es C' ∧ d = .l es ∧ L = dJ K p C' J := fun G H σ gh en io Q q =>
  hl G H σ gh en io _ fun Ji G1 H1 g1 gh1 j1 wk D hD => by
    have gD : G1 D = none := gh1.free hD
    have jo1 := j1.2
    have pD : p ≠ D := fun z => by
      obtain ⟨o, ho⟩ := (dA K p C).own G1 H1 p j1.1 rfl
      rw [z, hD] at ho
      cases ho
    have nD : ∀ a, J.foot a → ¬ a = D := fun a fa z => by
      obtain ⟨o, ho⟩ := J.own G1 H1 a jo1 fa
      rw [z, hD] at ho
      cases ho
    have st0 := Stp.newM (o := HO.lst []) gh1 hD
    have k1 : (dA K p C).ok G1 (upd H1 D (.lst [])) := (dA K p C).st _ _ _ _ _ (fun _ _ z => z) st0 j1.1
    refine ⟨fun i m H' => m = n - i ∧ i ≤ n ∧ ∃ G' es C', W i es C' ∧ Same G1 G' ∧ Same G' H' ∧ J.ok G' H' ∧ (dA K p C').ok G' H' ∧ (lA K D es).ok G' H', ⟨n, rfl, Nat.zero_le _, G1, [], C, w0, Same.refl _, st0.gh, Asn.pure_st st0 jo1, k1, ⟨gD, [], upd_same, .nil⟩⟩, fun i m H' hw => ?_⟩
    obtain ⟨rfl, hi, G', es, C', hW, a1, a2, a3, a4, a5⟩ := hw
    by_cases c : i < n
    · obtain ⟨ρ', hg, hel⟩ := he i es C' c hW
      refine .inr ⟨wk.go i G' H' c a1 a2, fun H2 => ∃ G2 es C', W (i + 1) es C' ∧ Same G1 G2 ∧ Same G2 H2 ∧ J.ok G2 H2 ∧ (dA K p C').ok G2 H2 ∧ (lA K D es).ok G2 H2, fun H2 z => ⟨n - (i + 1), by omega, rfl, c, z⟩, fun v H2 y => ?_⟩
      obtain ⟨G2, st, dp⟩ := wk.yld i G' H' v H2 c a1 a2 y
      refine hg G2 H2 _ v _ st.gh (env_wipe (env_mono ((g1.trans a1).trans st.gg) en) vs) dp fun σ' en' hw => ⟨hw.trans (wipe_wipe σ vs), ?_⟩
      refine hel ((lA K D es).and J) (fun z => z.elim (fun e => pD e) hf) G2 H2 _ st.gh en' ⟨Asn.pure_st st a4, Asn.pure_st st a5, Asn.pure_st st a3⟩ _ fun d L ⟨y, C2, e1, hW2, e2⟩ v3 G3 H3 g3 gh3 j3 dy => ?_
      subst e1
      subst e2
      obtain ⟨d3, ⟨gq, ws, hq, r2⟩, i3⟩ := j3
      have st4 := Stp.store (o := HO.lst (ws ++ [v3])) gh3 gq hq
      refine ⟨ws, hq, ?_, G3, es ++ [y], C2, hW2, (a1.trans st.gg).trans g3, st4.gh, J.st _ _ _ _ _ nD st4 i3, (dA K p C2).st _ _ _ _ _ (fun a (e : a = p) (e2 : a = D) => pD (e.symm.trans e2)) st4 d3, gq, _, upd_same, dpa_app r2 (.cons dy .nil)⟩
      rw [dpa_len r2, hlen _ _ _ hW]
      exact Nat.lt_of_le_of_lt (show i ≤ 100000 by omega) (by decide)
    · have ei : i = n := by omega
      subst ei
      obtain ⟨gq, ws, hq, r2⟩ := a5
      have st : Stp (· = D) G' H' (upd G' D (.lst ws)) H' := Stp.frz a2 gq hq
      exact .inl ⟨wk.stop G' H' a1 a2, q (.l es) _ ⟨es, C', hW, rfl, rfl⟩ _ (upd G' D (.lst ws)) H' ((g1.trans a1).trans st.gg) st.gh ⟨(dA K p C').st _ _ _ _ _ (fun a (e : a = p) (e2 : a = D) => pD (e.symm.trans e2)) st a4, J.st _ _ _ _ _ nD st a3⟩ ⟨D, ws, rfl, upd_same, dp_monos st.gg _ ws r2⟩⟩
end
end PL

/-! lists: xs[i:j], xs[::-1] -/
namespace PL
open PySem PySem.Spec PyProof.Rows L2
variable [Nm]
section
variable {K : PySem.W.Frag} {ρ : Rho} {I J L N : Asn} {ta tb tc te : TE} {tr : TA} {ds : List PyData}
theorem cut_mid {xs : List V} {i j : Nat} (h : i ≤ j) : cutV xs (some (i : Nat)) (some (j : Nat)) = (xs.drop i).take (j - i) := by
  unfold cutV
  rw [HT.sIx_nat, HT.sIx_nat]
  by_cases h1 : j ≤ xs.length
  · rw [Nat.min_eq_left h1, Nat.min_eq_left (by omega)]
  · rw [Nat.min_eq_right (show xs.length ≤ j by omega)]
    by_cases h2 : i ≤ xs.length
    · rw [Nat.min_eq_left h2, List.take_of_length_le (by rw [List.length_drop]; omega), List.take_of_length_le (by rw [List.length_drop]; omega)]
    · rw [Nat.min_eq_right (by omega), List.drop_of_length_le (Nat.le_refl _), List.drop_of_length_le (show xs.length ≤ i by omega), List.take_nil, List.take_nil]
theorem e_sliceMid {i j : Nat} (h : i ≤ j) (ha : E K ta ρ I (.d (.list ds)) I) (hb : E K tb ρ I (.i (i : Nat)) I) (hc : E K tc ρ I (.i (j : Nat)) I) : E K (tSl (rSlL K) ta (tPart tb) (tPart tc)) ρ I (.l ((ds.drop i).take (j - i))) I := fun G H σ gh en io Q q =>
  ha G H σ gh en io _ fun v G1 H1 g1 gh1 j1 dv => hb G1 H1 σ gh1 (env_mono g1 en) j1 _ fun w G2 H2 g2 gh2 j2 dw => by
    obtain rfl := dv_int dw
    refine ⟨_, rfl, hc G2 H2 σ gh2 (env_mono (g1.trans g2) en) j2 _ fun u G3 H3 g3 gh3 j3 du => ?_⟩
    obtain rfl := dv_int du
    cases dv with
    | lst s r =>
      rename_i a xs
      refine ⟨_, rfl, a, xs, rfl, ((g2.trans g3).trans gh3).seq s, fun p hp => ?_⟩
      rw [cut_mid h]
      have st := Stp.new (o := .lst ((xs.drop i).take (j - i))) gh3 hp
      exact q _ _ _ (((g1.trans g2).trans g3).trans st.gg) st.gh (Asn.pure_st st j3) ⟨p, _, rfl, upd_same, dpa_take _ (dpa_drop i (dp_monos ((g2.trans g3).trans st.gg) ds xs r))⟩
theorem dpa_rev {G : Hp} : ∀ {vs : List V} {ds : List PyData}, DpAll K G vs ds → DpAll K G vs.reverse ds.reverse
  | _, _, .nil => .nil
  | _, _, .cons a b => by
    rw [List.reverse_cons, List.reverse_cons]
    exact dpa_app (dpa_rev b) (.cons a .nil)
theorem e_revL (ha : E K ta ρ I (.d (.list ds)) J) : E K (tRevL K ta) ρ I (.l ds.reverse) J := fun G H σ gh en io Q q =>
  ha G H σ gh en io _ fun v G1 H1 g1 gh1 j1 dv => by
    cases dv with
    | lst s r =>
      rename_i a xs
      refine ⟨a, xs, rfl, gh1.seq s, fun p hp => ?_⟩
      have st := Stp.new (o := .lst xs.reverse) gh1 hp
      exact q _ _ _ (g1.trans st.gg) st.gh (Asn.pure_st st j1) ⟨p, _, rfl, upd_same, dpa_rev (dp_monos st.gg ds xs r)⟩
end
end PL

local macro_rules | `(tactic| walk_at "norm") => `(tactic| try simp only [PL.cxK, PL.cxHK, List.map_cons, List.map_nil, List.cons_append, List.nil_append, List.length_cons, List.length_nil, List.replicate_succ, List.replicate_zero, Nat.reduceAdd, Nat.reduceSub, Nat.zero_add, Nat.sub_self])
local macro_rules | `(tactic| walk_at "ev") => `(tactic| repeat' (first | exact PL.e_var rfl | exact PL.e_int | exact PL.e_bl | exact PL.e_str | exact PL.e_non | exact PL.a_nil | refine PL.p_cons ?_ ?_ | refine PL.p_f1 ?_ | refine PL.p_f2 ?_ | refine PL.p_add ?_ ?_ | refine PL.p_sub ?_ ?_ | refine PL.p_mul ?_ ?_ ?_ | refine PL.p_div ?_ ?_ ?_ | refine PL.p_mod ?_ ?_ ?_ | refine PL.p_pow ?_ ?_ ?_ | refine PL.p_lt ?_ ?_ | refine PL.p_le ?_ ?_ | refine PL.p_gt ?_ ?_ | refine PL.p_ge ?_ ?_ | refine PL.p_eqI ?_ ?_ | refine PL.p_neI ?_ ?_ | refine PL.p_neg ?_ | refine PL.p_gcd ?_ | refine PL.p_int1 ?_ | refine PL.p_abs ?_ | refine PL.p_len ?_ | refine PL.p_test ?_ | refine PL.d_ix0 ?_ | refine PL.d_ix1 ?_ | refine PL.d_ix2 ?_ | refine PL.d_ix3 ?_ | refine PL.p_list ?_ | refine' PL.p_i0 _ | refine' PL.p_i1 _ | refine' PL.p_i2 _))
namespace W
open PySem PySem.Spec PyProof.Rows L2 FR PL
open TS TD TF TR PySem.NumText
def topS (i : Nat) : Stmt := PySem.Challenge.pw_steadybodies_k46_texts_of_runs.main.body.getD i (.Pass ⟨0, 0, 0, 0⟩)
abbrev s_fraction : Stmt := topS 7
theorem sc_fraction : FnScope ["numerator", "denominator", "divisor"] ["numerator", "denominator"] (defScope s_fraction) := ⟨rfl, rfl, rfl, by decide +kernel, rfl, by decide +kernel, by decide +kernel⟩
abbrev s_decimal : Stmt := topS 8
theorem sc_decimal : FnScope ["number", "unit", "chunks", "low"] ["number"] (defScope s_decimal) := ⟨rfl, rfl, rfl, by decide +kernel, rfl, by decide +kernel, by decide +kernel⟩
abbrev s_is_decimal : Stmt := topS 9
theorem sc_is_decimal : FnScope ["text", "figure"] ["text"] (defScope s_is_decimal) := ⟨rfl, rfl, rfl, by decide +kernel, rfl, by decide +kernel, by decide +kernel⟩
abbrev s_write_fraction : Stmt := topS 10
theorem sc_write_fraction : FnScope ["a", "text"] ["a"] (defScope s_write_fraction) := ⟨rfl, rfl, rfl, by decide +kernel, rfl, by decide +kernel, by decide +kernel⟩
abbrev s_read_fraction : Stmt := topS 11
theorem sc_read_fraction : FnScope ["text", "top", "stroke", "bottom", "value"] ["text"] (defScope s_read_fraction) := ⟨rfl, rfl, rfl, by decide +kernel, rfl, by decide +kernel, by decide +kernel⟩
abbrev s_write_vector : Stmt := topS 14
theorem sc_write_vector : FnScope ["vector"] ["vector"] (defScope s_write_vector) := ⟨rfl, rfl, rfl, by decide +kernel, rfl, by decide +kernel, by decide +kernel⟩
abbrev s_lines_of : Stmt := topS 15
theorem sc_lines_of : FnScope ["text"] ["text"] (defScope s_lines_of) := ⟨rfl, rfl, rfl, by decide +kernel, rfl, by decide +kernel, by decide +kernel⟩
abbrev s_words_behind : Stmt := topS 16
theorem sc_words_behind : FnScope ["first", "line", "count", "words"] ["first", "line", "count"] (defScope s_words_behind) := ⟨rfl, rfl, rfl, by decide +kernel, rfl, by decide +kernel, by decide +kernel⟩
abbrev s_read_integer : Stmt := topS 17
theorem sc_read_integer : FnScope ["word"] ["word"] (defScope s_read_integer) := ⟨rfl, rfl, rfl, by decide +kernel, rfl, by decide +kernel, by decide +kernel⟩
abbrev s_read_vector : Stmt := topS 18
theorem sc_read_vector : FnScope ["words"] ["words"] (defScope s_read_vector) := ⟨rfl, rfl, rfl, by decide +kernel, rfl, by decide +kernel, by decide +kernel⟩
abbrev s_write_run : Stmt := topS 22
theorem sc_write_run : FnScope ["run", "step", "line"] ["run"] (defScope s_write_run) := ⟨rfl, rfl, rfl, by decide +kernel, rfl, by decide +kernel, by decide +kernel⟩
abbrev s_lines_of_step : Stmt := topS 23
theorem sc_lines_of_step : FnScope ["step", "pushes", "speeds", "forces", "lines", "name", "vector", "amount"] ["step"] (defScope s_lines_of_step) := ⟨rfl, rfl, rfl, by decide +kernel, rfl, by decide +kernel, by decide +kernel⟩
abbrev s_write_name : Stmt := topS 24
theorem sc_write_name : FnScope ["name", "kind", "one", "other", "side"] ["name"] (defScope s_write_name) := ⟨rfl, rfl, rfl, by decide +kernel, rfl, by decide +kernel, by decide +kernel⟩
abbrev s_read_run : Stmt := topS 25
theorem sc_read_run : FnScope ["text", "steps", "part", "line", "word", "pushes", "speeds", "forces"] ["text"] (defScope s_read_run) := ⟨rfl, rfl, rfl, by decide +kernel, rfl, by decide +kernel, by decide +kernel⟩
abbrev s_read_part : Stmt := topS 26
theorem sc_read_part : FnScope ["word", "line", "words"] ["word", "line"] (defScope s_read_part) := ⟨rfl, rfl, rfl, by decide +kernel, rfl, by decide +kernel, by decide +kernel⟩
abbrev s_read_force : Stmt := topS 27
theorem sc_read_force : FnScope ["words", "kind", "one", "other", "side", "amount"] ["words"] (defScope s_read_force) := ⟨rfl, rfl, rfl, by decide +kernel, rfl, by decide +kernel, by decide +kernel⟩
abbrev s_law_begin : Stmt := topS 29
theorem sc_law_begin : FnScope ["script", "seed", "cell"] ["script"] (defScope s_law_begin) := ⟨rfl, rfl, rfl, by decide +kernel, rfl, by decide +kernel, by decide +kernel⟩
abbrev s_law_take : Stmt := topS 30
theorem sc_law_take : FnScope ["d", "many", "small", "digit"] ["d", "many"] (defScope s_law_take) := ⟨rfl, rfl, rfl, by decide +kernel, rfl, by decide +kernel, by decide +kernel⟩
abbrev s_law_signed : Stmt := topS 31
theorem sc_law_signed : FnScope ["d", "most"] ["d", "most"] (defScope s_law_signed) := ⟨rfl, rfl, rfl, by decide +kernel, rfl, by decide +kernel, by decide +kernel⟩
abbrev s_law_gcd : Stmt := topS 32
theorem sc_law_gcd : FnScope ["a", "b"] ["a", "b"] (defScope s_law_gcd) := ⟨rfl, rfl, rfl, by decide +kernel, rfl, by decide +kernel, by decide +kernel⟩
abbrev s_law_f : Stmt := topS 33
theorem sc_law_f : FnScope ["a", "b", "c"] ["a", "b"] (defScope s_law_f) := ⟨rfl, rfl, rfl, by decide +kernel, rfl, by decide +kernel, by decide +kernel⟩
abbrev s_law_part : Stmt := topS 34
theorem sc_law_part : FnScope ["d", "most"] ["d", "most"] (defScope s_law_part) := ⟨rfl, rfl, rfl, by decide +kernel, rfl, by decide +kernel, by decide +kernel⟩
abbrev s_law_vector : Stmt := topS 35
theorem sc_law_vector : FnScope ["d", "most"] ["d", "most"] (defScope s_law_vector) := ⟨rfl, rfl, rfl, by decide +kernel, rfl, by decide +kernel, by decide +kernel⟩
abbrev s_law_word : Stmt := topS 36
theorem sc_law_word : FnScope ["a"] ["a"] (defScope s_law_word) := ⟨rfl, rfl, rfl, by decide +kernel, rfl, by decide +kernel, by decide +kernel⟩
abbrev s_law_text : Stmt := topS 37
theorem sc_law_text : FnScope ["run", "text", "pushes", "speeds", "forces", "name", "push", "speed", "amount"] ["run"] (defScope s_law_text) := ⟨rfl, rfl, rfl, by decide +kernel, rfl, by decide +kernel, by decide +kernel⟩
abbrev s_law_told : Stmt := topS 38
theorem sc_law_told : FnScope ["text", "found", "e"] ["text"] (defScope s_law_told) := ⟨rfl, rfl, rfl, by decide +kernel, rfl, by decide +kernel, by decide +kernel⟩
abbrev s_law_run : Stmt := topS 39
theorem sc_law_run : FnScope ["d", "run", "turn", "k", "pushes", "speeds", "forces", "kind"] ["d"] (defScope s_law_run) := ⟨rfl, rfl, rfl, by decide +kernel, rfl, by decide +kernel, by decide +kernel⟩
abbrev s_law_bent : Stmt := topS 40
theorem sc_law_bent : FnScope ["d", "text", "menu", "lines", "here", "place", "sign"] ["d", "text"] (defScope s_law_bent) := ⟨rfl, rfl, rfl, by decide +kernel, rfl, by decide +kernel, by decide +kernel⟩
abbrev s_law : Stmt := topS 41
theorem sc_law : FnScope ["script", "d", "run", "text", "turn", "bent", "told"] ["script"] (defScope s_law) := ⟨rfl, rfl, rfl, by decide +kernel, rfl, by decide +kernel, by decide +kernel⟩
variable [PL.Nm]
/-- what the top has written -/
structure Top (K : PySem.W.Frag) (mg : Str → Option Value) (base : Heap) where
  f_fraction : Addr
  d_fraction : FuncData
  F_fraction : Fun K "fraction" "fraction" s_fraction f_fraction d_fraction
  g_fraction : mg "fraction" = some (.ref f_fraction)
  b_fraction : Binds K d_fraction ["numerator", "denominator"] []
  f_decimal : Addr
  d_decimal : FuncData
  F_decimal : Fun K "decimal" "decimal" s_decimal f_decimal d_decimal
  g_decimal : mg "decimal" = some (.ref f_decimal)
  b_decimal : Binds K d_decimal ["number"] []
  f_is_decimal : Addr
  d_is_decimal : FuncData
  tc_is_decimal : Addr
  tp_is_decimal : Addr
  tb_is_decimal : GxR.TabB base mg tc_is_decimal tp_is_decimal
  F_is_decimal : PL.FunC K "is_decimal" "is_decimal" s_is_decimal f_is_decimal d_is_decimal tc_is_decimal
  g_is_decimal : mg "is_decimal" = some (.ref f_is_decimal)
  b_is_decimal : Binds K d_is_decimal ["text"] []
  f_write_fraction : Addr
  d_write_fraction : FuncData
  F_write_fraction : Fun K "write_fraction" "write_fraction" s_write_fraction f_write_fraction d_write_fraction
  g_write_fraction : mg "write_fraction" = some (.ref f_write_fraction)
  b_write_fraction : Binds K d_write_fraction ["a"] []
  f_read_fraction : Addr
  d_read_fraction : FuncData
  F_read_fraction : Fun K "read_fraction" "read_fraction" s_read_fraction f_read_fraction d_read_fraction
  g_read_fraction : mg "read_fraction" = some (.ref f_read_fraction)
  b_read_fraction : Binds K d_read_fraction ["text"] []
  f_write_vector : Addr
  d_write_vector : FuncData
  F_write_vector : Fun K "write_vector" "write_vector" s_write_vector f_write_vector d_write_vector
  g_write_vector : mg "write_vector" = some (.ref f_write_vector)
  b_write_vector : Binds K d_write_vector ["vector"] []
  f_lines_of : Addr
  d_lines_of : FuncData
  F_lines_of : Fun K "lines_of" "lines_of" s_lines_of f_lines_of d_lines_of
  g_lines_of : mg "lines_of" = some (.ref f_lines_of)
  b_lines_of : Binds K d_lines_of ["text"] []
  f_words_behind : Addr
  d_words_behind : FuncData
  F_words_behind : Fun K "words_behind" "words_behind" s_words_behind f_words_behind d_words_behind
  g_words_behind : mg "words_behind" = some (.ref f_words_behind)
  b_words_behind : Binds K d_words_behind ["first", "line", "count"] []
  f_read_integer : Addr
  d_read_integer : FuncData
  F_read_integer : Fun K "read_integer" "read_integer" s_read_integer f_read_integer d_read_integer
  g_read_integer : mg "read_integer" = some (.ref f_read_integer)
  b_read_integer : Binds K d_read_integer ["word"] []
  f_read_vector : Addr
  d_read_vector : FuncData
  F_read_vector : Fun K "read_vector" "read_vector" s_read_vector f_read_vector d_read_vector
  g_read_vector : mg "read_vector" = some (.ref f_read_vector)
  b_read_vector : Binds K d_read_vector ["words"] []
  f_write_run : Addr
  d_write_run : FuncData
  F_write_run : Fun K "write_run" "write_run" s_write_run f_write_run d_write_run
  g_write_run : mg "write_run" = some (.ref f_write_run)
  b_write_run : Binds K d_write_run ["run"] []
  f_lines_of_step : Addr
  d_lines_of_step : FuncData
  F_lines_of_step : Fun K "lines_of_step" "lines_of_step" s_lines_of_step f_lines_of_step d_lines_of_step
  g_lines_of_step : mg "lines_of_step" = some (.ref f_lines_of_step)
  b_lines_of_step : Binds K d_lines_of_step ["step"] []
  f_write_name : Addr
  d_write_name : FuncData
  F_write_name : Fun K "write_name" "write_name" s_write_name f_write_name d_write_name
  g_write_name : mg "write_name" = some (.ref f_write_name)
  b_write_name : Binds K d_write_name ["name"] []
  f_read_run : Addr
  d_read_run : FuncData
  F_read_run : Fun K "read_run" "read_run" s_read_run f_read_run d_read_run
  g_read_run : mg "read_run" = some (.ref f_read_run)
  b_read_run : Binds K d_read_run ["text"] []
  f_read_part : Addr
  d_read_part : FuncData
  F_read_part : Fun K "read_part" "read_part" s_read_part f_read_part d_read_part
  g_read_part : mg "read_part" = some (.ref f_read_part)
  b_read_part : Binds K d_read_part ["word", "line"] []
  f_read_force : Addr
  d_read_force : FuncData
  F_read_force : Fun K "read_force" "read_force" s_read_force f_read_force d_read_force
  g_read_force : mg "read_force" = some (.ref f_read_force)
  b_read_force : Binds K d_read_force ["words"] []
  f_law_begin : Addr
  d_law_begin : FuncData
  F_law_begin : Fun K "_law_begin" "_law_begin" s_law_begin f_law_begin d_law_begin
  g_law_begin : mg "_law_begin" = some (.ref f_law_begin)
  b_law_begin : Binds K d_law_begin ["script"] []
  f_law_take : Addr
  d_law_take : FuncData
  F_law_take : Fun K "_law_take" "_law_take" s_law_take f_law_take d_law_take
  g_law_take : mg "_law_take" = some (.ref f_law_take)
  b_law_take : Binds K d_law_take ["d", "many"] []
  f_law_signed : Addr
  d_law_signed : FuncData
  F_law_signed : Fun K "_law_signed" "_law_signed" s_law_signed f_law_signed d_law_signed
  g_law_signed : mg "_law_signed" = some (.ref f_law_signed)
  b_law_signed : Binds K d_law_signed ["d", "most"] []
  f_law_gcd : Addr
  d_law_gcd : FuncData
  F_law_gcd : Fun K "_law_gcd" "_law_gcd" s_law_gcd f_law_gcd d_law_gcd
  g_law_gcd : mg "_law_gcd" = some (.ref f_law_gcd)
  b_law_gcd : Binds K d_law_gcd ["a", "b"] []
  f_law_f : Addr
  d_law_f : FuncData
  F_law_f : Fun K "_law_f" "_law_f" s_law_f f_law_f d_law_f
  g_law_f : mg "_law_f" = some (.ref f_law_f)
  b_law_f : Binds K d_law_f ["a", "b"] []
  f_law_part : Addr
  d_law_part : FuncData
  F_law_part : Fun K "_law_part" "_law_part" s_law_part f_law_part d_law_part
  g_law_part : mg "_law_part" = some (.ref f_law_part)
  b_law_part : Binds K d_law_part ["d", "most"] []
  f_law_vector : Addr
  d_law_vector : FuncData
  F_law_vector : Fun K "_law_vector" "_law_vector" s_law_vector f_law_vector d_law_vector
  g_law_vector : mg "_law_vector" = some (.ref f_law_vector)
  b_law_vector : Binds K d_law_vector ["d", "most"] []
  f_law_word : Addr
  d_law_word : FuncData
  F_law_word : Fun K "_law_word" "_law_word" s_law_word f_law_word d_law_word
  g_law_word : mg "_law_word" = some (.ref f_law_word)
  b_law_word : Binds K d_law_word ["a"] []
  f_law_text : Addr
  d_law_text : FuncData
  F_law_text : Fun K "_law_text" "_law_text" s_law_text f_law_text d_law_text
  g_law_text : mg "_law_text" = some (.ref f_law_text)
  b_law_text : Binds K d_law_text ["run"] []
  f_law_told : Addr
  d_law_told : FuncData
  F_law_told : Fun K "_law_told" "_law_told" s_law_told f_law_told d_law_told
  g_law_told : mg "_law_told" = some (.ref f_law_told)
  b_law_told : Binds K d_law_told ["text"] []
  f_law_run : Addr
  d_law_run : FuncData
  F_law_run : Fun K "_law_run" "_law_run" s_law_run f_law_run d_law_run
  g_law_run : mg "_law_run" = some (.ref f_law_run)
  b_law_run : Binds K d_law_run ["d"] []
  f_law_bent : Addr
  d_law_bent : FuncData
  F_law_bent : Fun K "_law_bent" "_law_bent" s_law_bent f_law_bent d_law_bent
  g_law_bent : mg "_law_bent" = some (.ref f_law_bent)
  b_law_bent : Binds K d_law_bent ["d", "text"] []
  f_law : Addr
  d_law : FuncData
  F_law : Fun K "law" "law" s_law f_law d_law
  g_law : mg "law" = some (.ref f_law)
  b_law : Binds K d_law ["script"] []
  t_TEXT_LIMIT : Tok
  gk_TEXT_LIMIT : mg "TEXT_LIMIT" = some (.int 1000 t_TEXT_LIMIT)
  t_FIGURE_LIMIT : Tok
  gk_FIGURE_LIMIT : mg "FIGURE_LIMIT" = some (.int 9 t_FIGURE_LIMIT)
  k_PART_WORDS : Addr
  gk_PART_WORDS : mg "PART_WORDS" = some (.ref k_PART_WORDS)
  dk_PART_WORDS : ∀ G, SqT K G k_PART_WORDS [.str "push", .str "speed", .str "force"]
  tk_PART_WORDS : ∃ o, K.lookup k_PART_WORDS = some o ∧ o.cls = .type "tuple" ∧ o.dict = none
  k_FORCE_KINDS : Addr
  gk_FORCE_KINDS : mg "FORCE_KINDS" = some (.ref k_FORCE_KINDS)
  dk_FORCE_KINDS : ∀ G, SqT K G k_FORCE_KINDS [.str "apart", .str "joint"]
  c_SteadyError : Addr
  gc_SteadyError : mg "SteadyError" = some (.ref c_SteadyError)
  xc_SteadyError : PySem.W.excIn K c_SteadyError [.type "ValueError", .type "Exception", .type "BaseException", .type "object"] "ValueError.__new__" = true
  kc_SteadyError : PySem.W.keepIn K (.ref c_SteadyError) = true
  bc_SteadyError : PySem.W.subIn K (.ref c_SteadyError) (.type "BaseException") = some true
  tc_SteadyError : PySem.W.typeIn K (.ref c_SteadyError) = some (.type "type")
  hc_SteadyError : PySem.W.hasDictIn K c_SteadyError = true
  c_ZeroDenominator : Addr
  gc_ZeroDenominator : mg "ZeroDenominator" = some (.ref c_ZeroDenominator)
  xc_ZeroDenominator : PySem.W.excIn K c_ZeroDenominator [.type "ValueError", .type "Exception", .type "BaseException", .type "object"] "ValueError.__new__" = true
  kc_ZeroDenominator : PySem.W.keepIn K (.ref c_ZeroDenominator) = true
  bc_ZeroDenominator : PySem.W.subIn K (.ref c_ZeroDenominator) (.type "BaseException") = some true
  tc_ZeroDenominator : PySem.W.typeIn K (.ref c_ZeroDenominator) = some (.type "type")
  hc_ZeroDenominator : PySem.W.hasDictIn K c_ZeroDenominator = true
  c_TextError : Addr
  gc_TextError : mg "TextError" = some (.ref c_TextError)
  xc_TextError : PySem.W.excIn K c_TextError [.type "ValueError", .type "Exception", .type "BaseException", .type "object"] "ValueError.__new__" = true
  kc_TextError : PySem.W.keepIn K (.ref c_TextError) = true
  bc_TextError : PySem.W.subIn K (.ref c_TextError) (.type "BaseException") = some true
  tc_TextError : PySem.W.typeIn K (.ref c_TextError) = some (.type "type")
  hc_TextError : PySem.W.hasDictIn K c_TextError = true
  ac_SteadyError_SteadyError : PySem.W.subIn K (.ref c_SteadyError) (.ref c_SteadyError) = some true
  ac_ZeroDenominator_ZeroDenominator : PySem.W.subIn K (.ref c_ZeroDenominator) (.ref c_ZeroDenominator) = some true
  ac_ZeroDenominator_SteadyError : PySem.W.subIn K (.ref c_ZeroDenominator) (.ref c_SteadyError) = some true
  ac_TextError_TextError : PySem.W.subIn K (.ref c_TextError) (.ref c_TextError) = some true
  ac_TextError_SteadyError : PySem.W.subIn K (.ref c_TextError) (.ref c_SteadyError) = some true
  no_ZeroDenominator_TextError : PySem.W.subIn K (.ref c_ZeroDenominator) (.ref c_TextError) = some false
  E_ZeroDenominator : ExcC K c_ZeroDenominator
  E_TextError : ExcC K c_TextError
  n_abs : mg "abs" = none
  n_all : mg "all" = none
  n_divmod : mg "divmod" = none
  n_int : mg "int" = none
  n_isinstance : mg "isinstance" = none
  n_len : mg "len" = none
  n_list : mg "list" = none
  n_range : mg "range" = none
  n_reversed : mg "reversed" = none
  n_str : mg "str" = none
  n_tuple : mg "tuple" = none
  n_digits : PySem.W.nsIn K cStatics "sys.int_max_str_digits" = some none
  n_gcd : mg "gcd" = some (.builtin "math.gcd")
/-- the tables of code objects that are written -/
abbrev Top.tabs {K : PySem.W.Frag} {mg : Str → Option Value} {base : Heap} (Tp : Top K mg base) : PL.Tbs := ⟨[Tp.tp_is_decimal], []⟩

/-! ### texts -/
def Tx (l : List Nat) : Prop := ∀ c ∈ l, c < 1114112
theorem sh_str {l : List Nat} (h : Tx l) : SeqAt.shaped (.str (sx l)) = true := by
  unfold SeqAt.shaped
  rw [Bool.and_eq_true]
  refine ⟨?_, decide_eq_true (show 0 ≤ 64 from Nat.zero_le _)⟩
  show ((sx l).cps.all (· < 0x110000)) = true
  rw [Array.all_eq_true']
  intro c hc
  exact decide_eq_true (h c (by simpa using hc))
theorem eqv_s (l m : List Nat) : PyData.eqv (.str (sx l)) (.str (sx m)) = decide (l = m) := by
  rw [Bool.eq_iff_iff, decide_eq_true_iff]
  simp [PyData.eqv]
theorem cdiv (i : Int) : CDivP i ((10 : Int) ^ 64) := by
  refine ⟨by decide, ?_⟩
  unfold PySem.Builtin.divisionGoesByPylong
  rw [Bool.and_eq_false_iff]
  exact .inl (by decide +kernel)
theorem jn (ls : List (List Nat)) : Txt.join (Str.ofString "") (ls.map sx) = sx ls.flatten := by
  show Builtin.Str.glued _ _ = _
  rw [StrLaws.glued_eq_join]
  induction ls with
  | nil => rfl
  | cons a r ih =>
    cases r with
    | nil =>
      refine sx_ext ?_
      show a.toArray.toList = _
      simp
    | cons b r =>
      refine sx_ext ?_
      show (a.toArray ++ #[] ++ (Str.join (Str.ofString "") ((b :: r).map sx)).cps).toList = _
      rw [Array.toList_append, ih]
      simp
theorem pow16 (k : Nat) : 10 ^ k ≤ 2 ^ (4 * k) := by
  rw [Nat.pow_mul]
  exact Nat.pow_le_pow_left (by decide) k
theorem lt_bits {n k : Nat} (h : n < 10 ^ k) (hk : k ≤ 2000) : n < 2 ^ 8500 := Nat.lt_of_lt_of_le h (Nat.le_trans (pow16 k) (Nat.pow_le_pow_right (by decide) (by omega)))
theorem few_bits {n k : Nat} (h : n < 10 ^ k) (hk : k ≤ 400) : ((n : Nat) : Int).natAbs.log2 < 1920 := by
  rw [Int.natAbs_natCast]
  by_cases h0 : n = 0
  · subst h0; decide
  · rw [Nat.log2_lt h0]
    exact Nat.lt_of_lt_of_le h (Nat.le_trans (pow16 k) (Nat.pow_le_pow_right (by decide) (by omega)))
def chunk (m : Nat) : List Nat := List.replicate (64 - (dg m).length) 48 ++ dg m
theorem chunk_len {m : Nat} (h : m < 10 ^ 64) : (chunk m).length = 64 := by
  unfold chunk
  rw [List.length_append, List.length_replicate]
  have := dg_len h (by decide)
  omega
theorem dg_chunk {n : Nat} (h : 10 ^ 64 ≤ n) : dg n = dg (n / 10 ^ 64) ++ chunk (n % 10 ^ 64) := (dg_split 64 n h).resolve_right (by decide)
theorem tx_dg (n : Nat) : Tx (dg n) := fun c hc => by have := dg_all n c hc; omega
structure DcI (n : Nat) (s : Nat × List (List Nat)) : Prop where
  e : dg s.1 ++ s.2.reverse.flatten = dg n
  le : s.1 ≤ n
  l : ∀ c ∈ s.2, c.length = 64
theorem flat_len : ∀ {cs : List (List Nat)}, (∀ c ∈ cs, c.length = 64) → cs.flatten.length = 64 * cs.length
  | [], _ => rfl
  | c :: cs, h => by
    rw [List.flatten_cons, List.length_append, h c List.mem_cons_self, flat_len fun d hd => h d (List.mem_cons_of_mem _ hd), List.length_cons]
    omega
theorem DcI.few {n : Nat} {s : Nat × List (List Nat)} (h : DcI n s) (hn : n < 10 ^ 1100) : s.2.length ≤ 17 := by
  have e := congrArg List.length h.e
  have d := dg_len hn (by decide)
  rw [List.length_append, flat_len fun c hc => h.l c (List.mem_reverse.mp hc), List.length_reverse] at e
  omega
theorem DcI.step {n : Nat} {s : Nat × List (List Nat)} (h : DcI n s) (hs : 10 ^ 64 ≤ s.1) : DcI n (s.1 / 10 ^ 64, s.2 ++ [chunk (s.1 % 10 ^ 64)]) := by
  refine ⟨?_, Nat.le_trans (Nat.div_le_self _ _) h.le, fun c hc => ?_⟩
  · rw [← h.e, dg_chunk hs]
    simp
  · rcases List.mem_append.mp hc with hc | hc
    · exact h.l c hc
    · rw [List.mem_singleton.mp hc]
      exact chunk_len (Nat.mod_lt _ (Nat.pow_pos (by decide)))
def lpD (n : Nat) (cs : List (List Nat)) : Nat × List (List Nat) := if h : 10 ^ 64 ≤ n then lpD (n / 10 ^ 64) (cs ++ [chunk (n % 10 ^ 64)]) else (n, cs)
termination_by n
decreasing_by exact Nat.div_lt_self (Nat.lt_of_lt_of_le (Nat.pow_pos (by decide)) h) (by decide)
theorem lpD_go {n : Nat} {cs : List (List Nat)} (h : 10 ^ 64 ≤ n) : lpD n cs = lpD (n / 10 ^ 64) (cs ++ [chunk (n % 10 ^ 64)]) := by
  rw [lpD, dif_pos h]
theorem lpD_end {n : Nat} {cs : List (List Nat)} (h : ¬ 10 ^ 64 ≤ n) : lpD n cs = (n, cs) := by
  rw [lpD, dif_neg h]
theorem lpD_ok {n : Nat} : ∀ (k : Nat) (s : Nat × List (List Nat)), s.1 ≤ k → DcI n s → DcI n (lpD s.1 s.2) ∧ (lpD s.1 s.2).1 < 10 ^ 64 := by
  intro k
  induction k using Nat.strongRecOn with
  | _ k ih =>
    intro s hs h
    by_cases c : 10 ^ 64 ≤ s.1
    · rw [lpD_go c]
      have lt : s.1 / 10 ^ 64 < s.1 := Nat.div_lt_self (Nat.lt_of_lt_of_le (Nat.pow_pos (by decide)) c) (by decide)
      exact ih (s.1 / 10 ^ 64) (Nat.lt_of_lt_of_le lt hs) _ (Nat.le_refl _) (h.step c)
    · rw [lpD_end c]
      exact ⟨h, Nat.lt_of_not_le c⟩
def RFrac (C : Addr) (ds : List Dat) (r : Res) : Prop := ∃ n m : Int, ds = [.i n, .i m] ∧ n.natAbs < 2 ^ 8500 ∧ m.natAbs < 2 ^ 8500 ∧ ((m ≠ 0 ∧ r = .ok (.d (fr (lf n m)))) ∨ (m = 0 ∧ r = .err C))
def RDec (ds : List Dat) (d : Dat) : Prop := ∃ n : Nat, ds = [.i (n : Int)] ∧ n < 10 ^ 1100 ∧ d = .d (.str (sx (dg n)))
def RIsD (ds : List Dat) (d : Dat) : Prop := ∃ l : List Nat, ds = [.d (.str (sx l))] ∧ l.length ≤ 100000 ∧ Tx l ∧ d = .b (decide (IsDec l))
def RWr (ds : List Dat) (d : Dat) : Prop := ∃ a : F, ds = [.d (fr a)] ∧ 0 < a.2 ∧ a.1.natAbs < 10 ^ 1100 ∧ a.2.natAbs < 10 ^ 1100 ∧ d = .d (.str (sx (wr a)))
theorem st_slash : (Str.ofString "/") = sx [47] := by rfl
theorem st_minus : (Str.ofString "-") = sx [45] := by rfl
theorem st_nil : (Str.ofString "") = sx [] := by rfl
theorem st_0 : (Str.ofString "0") = sx [48] := by rfl
theorem st_1 : (Str.ofString "1") = sx [49] := by rfl
theorem st_fig : (Str.ofString "0123456789").cps.toList = [48, 49, 50, 51, 52, 53, 54, 55, 56, 57] := by decide +kernel
theorem in_fig (c : Nat) : decide (c ∈ (Str.ofString "0123456789").cps.toList) = decide (48 ≤ c ∧ c ≤ 57) := by
  rw [st_fig, decide_eq_decide]
  simp only [List.mem_cons, List.not_mem_nil, or_false]
  omega


/-! ### writing and reading -/
def RRead (CT : Addr) (ds : List Dat) (r : Res) : Prop := ∃ l : List Nat, ds = [.d (.str (sx l))] ∧ Tx l ∧ l.length ≤ 100000 ∧ ((1000 < l.length ∧ r = .err CT) ∨ (l.length ≤ 1000 ∧ prR l = none ∧ r = .err CT) ∨ (l.length ≤ 1000 ∧ ∃ v, prR l = some v ∧ r = .ok (.d (fr v))))
theorem len_str (l : List Nat) : (sx l).length = l.length := sx_len l
theorem val_lt : ∀ {l : List Nat}, AllDigits l → digitsVal l < 10 ^ l.length := by
  intro l
  suffices key : ∀ (k : Nat) (l : List Nat), l.length = k → AllDigits l → digitsVal l < 10 ^ l.length from key l.length l rfl
  intro k
  induction k with
  | zero =>
    intro l hl _
    obtain rfl := List.length_eq_zero_iff.mp hl
    decide
  | succ k ih =>
    intro m hm h
    rcases List.eq_nil_or_concat m with rfl | ⟨l, c, rfl⟩
    · cases hm
    rw [List.concat_eq_append] at *
    have ih := ih l (by rw [List.length_append, List.length_singleton] at hm; omega)
    have hc := h c (List.mem_append_right _ List.mem_cons_self)
    have := ih fun d hd => h d (List.mem_append_left _ hd)
    rw [val_snoc, List.length_append, List.length_singleton, Nat.pow_succ]
    omega
theorem top_sub (l : List Nat) : (topP l).length ≤ l.length := by
  unfold topP
  exact NumText.len_takeWhile _ _
theorem bare_len (l : List Nat) : (bare l).length ≤ l.length := by
  unfold bare
  split
  · rw [List.length_tail]; omega
  · exact Nat.le_refl _
theorem tx_sub {l m : List Nat} (h : Tx l) (hs : ∀ c ∈ m, c ∈ l) : Tx m := fun c hc => h c (hs c hc)
theorem tx_top {l : List Nat} (h : Tx l) : Tx (topP l) := tx_sub h fun c hc => (List.takeWhile_sublist _).subset hc
theorem tx_bare {l : List Nat} (h : Tx l) : Tx (bare l) := tx_sub h fun c hc => by
  unfold bare at hc
  split at hc
  · exact List.mem_of_mem_tail hc
  · exact hc
theorem bot_cases (l : List Nat) : (47 ∉ l ∧ botP l = [49]) ∨ ∃ b, l = topP l ++ 47 :: b ∧ botP l = b ∧ 47 ∉ topP l := by
  by_cases h : 47 ∈ l
  · obtain ⟨a, b, rfl, hn⟩ := at_stroke h
    right
    exact ⟨b, by rw [cut_top hn], cut_bot hn, by rw [cut_top hn]; exact hn⟩
  · left
    exact ⟨h, by unfold botP; rw [if_neg h]⟩
theorem bot_len {l : List Nat} : (botP l).length ≤ l.length + 1 := by
  rcases bot_cases l with ⟨_, e⟩ | ⟨b, e, e2, _⟩
  · rw [e]; simp
  · rw [e2]
    have := congrArg List.length e
    rw [List.length_append, List.length_cons] at this
    omega
theorem tx_bot {l : List Nat} (h : Tx l) : Tx (botP l) := by
  rcases bot_cases l with ⟨_, e⟩ | ⟨b, e, e2, _⟩
  · rw [e]
    intro c hc
    rw [List.mem_singleton.mp hc]
    decide
  · rw [e2]
    exact tx_sub h fun c hc => by rw [e]; simp [hc]
theorem seen_of {l : List Nat} (h : ∀ c ∈ l, c = 45 ∨ (48 ≤ c ∧ c ≤ 57)) : PySem.numSeenOf (sx l) = l := by
  have e : (sx l).cps.toList = l := by simp
  have := (numText_signs (x := sx l) (by rw [e]; exact h)).2
  rw [e] at this
  exact this
theorem len_any {l : List Nat} (h : ∀ c ∈ l, c = 45 ∨ (48 ≤ c ∧ c ≤ 57)) : (sx l).length ≤ 640 ∨ ¬ (PySem.numSeenOf (sx l)).length ≤ 640 := by
  rw [seen_of h, sx_len]
  omega
theorem rd_text {l : List Nat} (h : IsDec (bare l)) (hl : l.length ≤ 4300) : PySem.intText? (sx l) = some (rd l) ∧ ∀ c ∈ l, c = 45 ∨ (48 ≤ c ∧ c ≤ 57) := by
  have e : (sx l).cps.toList = l := by simp
  rcases bare_dec h with ⟨c, e1⟩ | ⟨c, e1⟩
  · have et : l.tail = bare l := by unfold bare; rw [if_pos c]
    refine ⟨?_, fun d hd => ?_⟩
    · rw [intText_neg (x := sx l) (cs := bare l) (by rw [e]; exact e1) h.2.1 h.1 (by rw [sx_len]; exact hl)]
      unfold rd
      rw [if_pos c, et]
    · rw [e1] at hd
      rcases List.mem_cons.mp hd with hd | hd
      · exact .inl hd
      · exact .inr (h.2.1 d hd)
  · refine ⟨?_, fun d hd => ?_⟩
    · have := intText_digits (x := sx l) (by rw [e, e1]; exact h.2.1) (by rw [e, e1]; exact h.1) (by rw [sx_len]; exact hl)
      rw [e] at this
      rw [this]
      unfold rd
      rw [if_neg c]
    · rw [e1] at hd
      exact .inr (h.2.1 d hd)
theorem dec_text {l : List Nat} (h : IsDec l) (hl : l.length ≤ 4300) : PySem.intText? (sx l) = some ((digitsVal l : Nat) : Int) ∧ ∀ c ∈ l, c = 45 ∨ (48 ≤ c ∧ c ≤ 57) := by
  have e : (sx l).cps.toList = l := by simp
  have := intText_digits (x := sx l) (by rw [e]; exact h.2.1) (by rw [e]; exact h.1) (by rw [sx_len]; exact hl)
  rw [e] at this
  exact ⟨this, fun d hd => .inr (h.2.1 d hd)⟩
theorem div_abs (n g : Int) : (n / g).natAbs ≤ n.natAbs := Int.natAbs_ediv_le_natAbs n g
theorem lf_le {n m : Int} (h : 0 < m) : (lf n m).1.natAbs ≤ n.natAbs ∧ (lf n m).2.natAbs ≤ m.natAbs := by
  unfold lf nf
  rw [if_neg (by omega)]
  exact ⟨div_abs _ _, div_abs _ _⟩
def optP : Option F → PyData
  | none => .none
  | some v => fr v
def tldP (l : List Nat) : PyData := if 1000 < l.length then .none else optP (prR l)
def toldD (l : List Nat) : Dat := .d (tldP l)
def RTold2 (ds : List Dat) (d : Dat) : Prop := ∃ l : List Nat, ds = [.d (.str (sx l))] ∧ Tx l ∧ l.length ≤ 100000 ∧ d = toldD l
abbrev dueD (o : Option (Int × Int)) : Dat := .d (optP o)
theorem sh_opt (o : Option F) : SeqAt.shaped (optP o) = true := by cases o <;> rfl
theorem eqv_opt (o : Option F) : PyData.eqv (optP o) (optP o) = true := by
  cases o with
  | none => rfl
  | some v => simp [optP, PyData.eqv, PyData.eqvAll]
theorem told_due {l : List Nat} (h : l.length ≤ 1000) : tldP l = optP (lwR l) := by
  unfold tldP
  rw [if_neg (by omega), read_eq]
def RDue (ds : List Dat) (d : Dat) : Prop := ∃ l : List Nat, ds = [.d (.str (sx l))] ∧ Tx l ∧ l.length ≤ 1000 ∧ d = dueD (lwR l)
theorem cutS_to (l : List Nat) (k : Nat) : cutS (sx l) none (some (k : Int)) = sx (l.take k) := by
  refine sx_ext ?_
  unfold cutS
  rw [sx_len]
  have e : (sx l).cps.toList = l := by simp
  rw [e]
  show (((l.drop _).take _).toArray).toList = _
  rw [List.toList_toArray]
  have h0 : HT.sIx l.length 0 none = 0 := rfl
  have h1 : HT.sIx l.length l.length (some (k : Int)) = min k l.length := by
    unfold HT.sIx
    simp
    omega
  rw [h0, h1, List.drop_zero, Nat.sub_zero]
  rcases Nat.le_total k l.length with z | z
  · rw [Nat.min_eq_left z]
  · rw [Nat.min_eq_right z, List.take_of_length_le z, List.take_of_length_le (Nat.le_refl _)]
theorem cutS_from (l : List Nat) (k : Nat) : cutS (sx l) (some (k : Int)) none = sx (l.drop k) := by
  refine sx_ext ?_
  unfold cutS
  rw [sx_len]
  have e : (sx l).cps.toList = l := by simp
  rw [e]
  show (((l.drop _).take _).toArray).toList = _
  rw [List.toList_toArray]
  have h0 : HT.sIx l.length l.length none = l.length := rfl
  have h1 : HT.sIx l.length 0 (some (k : Int)) = min k l.length := by
    unfold HT.sIx
    simp
    omega
  rw [h0, h1]
  rcases Nat.le_total k l.length with z | z
  · rw [Nat.min_eq_left z]
    exact List.take_of_length_le (by rw [List.length_drop]; omega)
  · rw [Nat.min_eq_right z, List.drop_of_length_le z, List.drop_of_length_le (Nat.le_refl _)]
    exact List.take_nil
theorem eqv_ls (a b : List (List Nat)) : PyData.eqv (.list (a.map fun p => .str (sx p))) (.list (b.map fun p => .str (sx p))) = decide (a = b) := by
  show PyData.eqvAll _ _ = _
  induction a generalizing b with
  | nil =>
    cases b with
    | nil => rfl
    | cons y b => simp [PyData.eqvAll]
  | cons x a ih =>
    cases b with
    | nil => simp [PyData.eqvAll]
    | cons y b =>
      rw [List.map_cons, List.map_cons]
      show (PyData.eqv (.str (sx x)) (.str (sx y)) && PyData.eqvAll (a.map _) (b.map _)) = _
      rw [ih, eqv_s, Bool.eq_iff_iff, Bool.and_eq_true, decide_eq_true_iff, decide_eq_true_iff, decide_eq_true_iff, List.cons.injEq]
theorem sh_ls {a : List (List Nat)} (h : ∀ p ∈ a, Tx p) : SeqAt.shaped (.list (a.map fun p => .str (sx p))) = true := by
  have h1 : PyData.canLayAll0 (a.map fun p => PyData.str (sx p)) = true := by
    induction a with
    | nil => rfl
    | cons x a ih =>
      have hx := sh_str (h x List.mem_cons_self)
      unfold SeqAt.shaped at hx
      rw [Bool.and_eq_true] at hx
      show (PyData.canLay0 (.str (sx x)) && PyData.canLayAll0 (a.map fun p => PyData.str (sx p))) = true
      rw [hx.1, ih fun p hp => h p (List.mem_cons_of_mem _ hp)]
      rfl
  have h2 : PyData.depthAll (a.map fun p => PyData.str (sx p)) ≤ 1 := by
    clear h1
    induction a with
    | nil => exact Nat.zero_le _
    | cons x a ih =>
      show max (PyData.depth (.str (sx x))) (PyData.depthAll (a.map fun p => PyData.str (sx p))) ≤ 1
      have := ih fun p hp => h p (List.mem_cons_of_mem _ hp)
      have : PyData.depth (.str (sx x)) = 0 := rfl
      omega
  show (PyData.canLayAll0 _ && decide (PyData.depthAll _ + 1 ≤ 64)) = true
  rw [h1, decide_eq_true (by omega)]
  rfl
theorem tx_spl {l : List Nat} (h : Tx l) : ∀ p ∈ spl l, Tx p := by
  induction l with
  | nil => intro p hp; rw [List.mem_singleton.mp hp]; exact h
  | cons c l ih =>
    have ih := ih fun d hd => h d (List.mem_cons_of_mem _ hd)
    intro p hp
    unfold spl at hp
    split at hp
    · rcases List.mem_cons.mp hp with rfl | hp
      · intro d hd; cases hd
      · exact ih p hp
    · have ne : ∃ q qs, spl l = q :: qs := by
        cases e : spl l with
        | nil => have := spl_pos l; rw [e] at this; cases this
        | cons q qs => exact ⟨q, qs, rfl⟩
      obtain ⟨q, qs, e⟩ := ne
      rw [e] at hp ih
      rcases List.mem_cons.mp hp with rfl | hp
      · intro d hd
        rcases List.mem_cons.mp hd with rfl | hd
        · exact h _ List.mem_cons_self
        · exact ih q List.mem_cons_self d hd
      · exact ih p (List.mem_cons_of_mem _ hp)
theorem spl_len (l : List Nat) : (spl l).length ≤ l.length + 1 := by
  induction l with
  | nil => exact Nat.le_refl _
  | cons c l ih =>
    unfold spl
    split
    · rw [List.length_cons, List.length_cons]; omega
    · split
      · rename_i e; rw [e] at ih; rw [List.length_cons] at ih ⊢; rw [List.length_cons]; omega
      · simp
theorem spl_sub (l : List Nat) : ∀ p ∈ spl l, p.length ≤ l.length := by
  induction l with
  | nil => intro p hp; rw [List.mem_singleton.mp hp]; exact Nat.le_refl _
  | cons c l ih =>
    intro p hp
    unfold spl at hp
    split at hp
    · rcases List.mem_cons.mp hp with rfl | hp
      · exact Nat.zero_le _
      · exact Nat.le_succ_of_le (ih p hp)
    · have ne : ∃ q qs, spl l = q :: qs := by
        cases e : spl l with
        | nil => have := spl_pos l; rw [e] at this; cases this
        | cons q qs => exact ⟨q, qs, rfl⟩
      obtain ⟨q, qs, e⟩ := ne
      rw [e] at hp ih
      rcases List.mem_cons.mp hp with rfl | hp
      · have := ih q List.mem_cons_self
        rw [List.length_cons, List.length_cons]; omega
      · exact Nat.le_succ_of_le (ih p (List.mem_cons_of_mem _ hp))
theorem sx_int (i : Int) : (toString i : Str) = sx (sg i) := by
  unfold sg
  by_cases c : i < 0
  · rw [if_pos c]
    have e : i = -((i.natAbs : Nat) : Int) := by omega
    conv => lhs; rw [e]
    exact sx_neg (by omega)
  · rw [if_neg c]
    have e : i = ((i.natAbs : Nat) : Int) := by omega
    conv => lhs; rw [e]
    exact sx_nat _
theorem tx_sg (i : Int) : Tx (sg i) := fun c hc => by
  unfold sg at hc
  split at hc
  · rcases List.mem_cons.mp hc with rfl | hc
    · decide
    · exact tx_dg _ c hc
  · exact tx_dg _ c hc
theorem len_sg {i : Int} {k : Nat} (h : i.natAbs < 10 ^ k) (hk : 0 < k) : (sg i).length ≤ k + 1 := by
  have := dg_len h hk
  unfold sg
  split
  · rw [List.length_cons]; omega
  · omega
theorem tx_app {l m : List Nat} (h : Tx l) (k : Tx m) : Tx (l ++ m) := fun c hc => by
  rcases List.mem_append.mp hc with hc | hc
  · exact h c hc
  · exact k c hc
theorem tx_take {l : List Nat} (h : Tx l) (k : Nat) : Tx (l.take k) := fun c hc => h c (List.mem_of_mem_take hc)
theorem tx_drop {l : List Nat} (h : Tx l) (k : Nat) : Tx (l.drop k) := fun c hc => h c (List.mem_of_mem_drop hc)
theorem tx_one {c : Nat} (h : c < 1114112) : Tx [c] := fun d hd => by rw [List.mem_singleton.mp hd]; exact h
theorem tx_wr (a : F) : Tx (wr a) := by
  unfold wr
  refine tx_app (tx_sg _) ?_
  split
  · intro c hc; cases hc
  · exact tx_app (tx_one (by decide)) (tx_dg _)
theorem bare_sg (i : Int) : bare (sg i) = dg i.natAbs := by
  unfold bare sg
  by_cases c : i < 0
  · rw [if_pos c]
    rfl
  · rw [if_neg c, if_neg ?_]
    intro z
    have := (dec_no (dg_dec i.natAbs)).2
    cases hd : dg i.natAbs with
    | nil => rw [hd] at z; cases z
    | cons a r =>
      rw [hd] at z this
      exact this (by rw [Option.some.inj z]; exact List.mem_cons_self)
theorem rd_of_sg (i : Int) : rd (sg i) = i := by
  have hz : sg i ≠ [45, 48] := fun y => by
    unfold sg at y
    split at y
    · have y4 : dg i.natAbs = [48] := (List.cons.inj y).2
      have := dg_val i.natAbs
      rw [y4] at this
      have y5 : i.natAbs = 0 := this.symm
      omega
    · exact (dec_no (dg_dec i.natAbs)).2 (by rw [y]; exact List.mem_cons_self)
  exact sg_inj (rd_sg (by rw [bare_sg]; exact dg_dec _) hz)
theorem read_wr {a : F} (h : Nrm a) : prR (wr a) = some a := by
  have p2 := h.1
  have e2 : ((a.2.natAbs : Nat) : Int) = a.2 := by omega
  have key : topP (wr a) = sg a.1 ∧ IsDec (botP (wr a)) ∧ botP (wr a) ≠ [48] ∧ ((digitsVal (botP (wr a)) : Nat) : Int) = a.2 := by
    by_cases c : a.2 = 1
    · have ew : wr a = sg a.1 := by unfold wr; rw [if_pos c, List.append_nil]
      have hn := sg_no a.1
      rw [ew]
      refine ⟨cut_none hn, ?_, ?_, ?_⟩ <;> unfold botP <;> rw [if_neg hn]
      · exact dec_one
      · decide
      · rw [c]; rfl
    · have ew : wr a = sg a.1 ++ 47 :: dg a.2.natAbs := by unfold wr; rw [if_neg c]
      have hn := sg_no a.1
      rw [ew, cut_top hn, cut_bot hn]
      refine ⟨rfl, dg_dec _, fun z => ?_, by rw [dg_val, e2]⟩
      have := dg_val a.2.natAbs
      rw [z] at this
      have y5 : a.2.natAbs = 0 := this.symm
      omega
  obtain ⟨k1, k2, k3, k4⟩ := key
  have ev : valP (wr a) = a := by
    unfold valP
    rw [k1, k4, rd_of_sg]
    exact lf_cop p2 h.2
  unfold prR
  rw [if_neg (fun z => by
    rcases z with z | z | z
    · exact z (by rw [k1, bare_sg]; exact dg_dec _)
    · exact z k2
    · exact k3 z), ev, if_neg (fun z => z rfl)]
def RBent (ds : List Dat) (C : DS) (Z : Asn) (Po : Dat → DS → Prop) : Prop := ∃ (l : List Nat) (a : F), ds = [.d (.str (sx l)), .d (fr a)] ∧ Tx l ∧ l.length ≤ 200 ∧ a.1.natAbs < 10 ^ 90 ∧ a.2.natAbs < 10 ^ 90 ∧ DOk C ∧ Z = .tt ∧ Po = fun d C' => DOk C' ∧ ∃ m : List Nat, d = .d (.str (sx m)) ∧ Tx m ∧ m.length ≤ 500
theorem signs_at {L : List Nat} (hL : ∀ c ∈ L, c < 1114112) {i : Int} (h0 : 0 ≤ i) (h1 : i < L.length) : ∃ c, atI L i = some c ∧ c < 1114112 := by
  obtain ⟨n, rfl⟩ : ∃ n : Nat, i = n := ⟨i.toNat, (Int.toNat_of_nonneg h0).symm⟩
  have hn : n < L.length := by omega
  exact ⟨L[n], atI_nat (List.getElem?_eq_getElem hn), hL _ (List.getElem_mem hn)⟩
theorem four_at {a b c d : List Nat} {i : Int} (h0 : 0 ≤ i) (h1 : i < 4) (ha : Tx a ∧ a.length ≤ 2) (hb : Tx b ∧ b.length ≤ 2) (hc : Tx c ∧ c.length ≤ 2) (hd : Tx d ∧ d.length ≤ 2) : ∃ m, atI [PyData.str (sx a), .str (sx b), .str (sx c), .str (sx d)] i = some (.str (sx m)) ∧ Tx m ∧ m.length ≤ 2 := by
  have k : i = 0 ∨ i = 1 ∨ i = 2 ∨ i = 3 := by omega
  rcases k with rfl | rfl | rfl | rfl
  · exact ⟨a, rfl, ha⟩
  · exact ⟨b, rfl, hb⟩
  · exact ⟨c, rfl, hc⟩
  · exact ⟨d, rfl, hd⟩
theorem mul7 {n : Nat} (h : 2 ≤ n) : Txt.mul (Str.ofString "7") (n : Int) = sx (List.replicate n 55) := by
  unfold Txt.mul
  have e1 : (Str.ofString "7").cps = #[55] := by rfl
  have e2 : ((((n : Nat) : Int) == 1) || (Str.ofString "7").length == 0) = false := by
    rw [Bool.or_eq_false_iff]
    exact ⟨by rw [beq_eq_false_iff_ne]; omega, rfl⟩
  rw [if_neg (by omega), e2, if_neg Bool.false_ne_true, e1, Int.toNat_natCast]
  refine sx_ext ?_
  have key : ∀ (k : Nat) (acc : Array Nat), ((List.replicate k (#[55] : Array Nat)).foldl (· ++ ·) acc).toList = acc.toList ++ List.replicate k 55 := by
    intro k
    induction k with
    | zero => intro acc; simp
    | succ k ih =>
      intro acc
      rw [List.replicate_succ, List.foldl_cons, ih, List.replicate_succ]
      simp
  rw [key]
  rfl
theorem dec7 {n : Nat} (h : 0 < n) : IsDec (List.replicate n 55) := by
  refine ⟨fun z => ?_, fun c hc => ?_, fun z => ?_⟩
  · have := congrArg List.length z
    rw [List.length_replicate] at this
    simp at this
    omega
  · rw [List.eq_of_mem_replicate hc]
    exact ⟨by decide, by decide⟩
  · cases n with
    | zero => omega
    | succ n => cases z
theorem told7 {n : Nat} (h : 0 < n) (h2 : n ≤ 1000) : toldD (List.replicate n 55) = .d (fr (((digitsVal (List.replicate n 55) : Nat) : Int), 1)) := by
  have d := dec7 h
  have e : wr (((digitsVal (List.replicate n 55) : Nat) : Int), 1) = List.replicate n 55 := by
    unfold wr sg
    rw [if_pos rfl, List.append_nil, if_neg (by omega), Int.natAbs_natCast, val_dg d]
  have r := read_wr (a := (((digitsVal (List.replicate n 55) : Nat) : Int), 1)) ⟨show (0 : Int) < 1 by decide, by simp⟩
  rw [e] at r
  unfold toldD tldP
  rw [if_neg (by rw [List.length_replicate]; omega), r]
  rfl
theorem told_nil : toldD [] = .d .none := by
  unfold toldD tldP
  rw [if_neg (by decide)]
  have : prR [] = none := if_pos (.inl fun z => z.1 rfl)
  rw [this]
  rfl
theorem told_wr {a : F} (h : Nrm a) (hl : (wr a).length ≤ 1000) : toldD (wr a) = .d (fr a) := by
  unfold toldD tldP
  rw [if_neg (by omega), read_wr h]
  rfl
theorem told_long {n : Nat} (h : 1000 < n) : toldD (List.replicate n 55) = .d .none := by
  unfold toldD tldP
  rw [if_pos (by rw [List.length_replicate]; exact h)]
theorem ok7 {n : Nat} (h : n ≤ 2000) : MulOk (Str.ofString "7") (n : Int) := by
  have e1 : (Str.ofString "7").length = 1 := rfl
  refine ⟨?_, fun h1 _ => ?_, fun h1 _ => ?_⟩
  · rw [Bool.or_eq_false_iff, decide_eq_false_iff_not, decide_eq_false_iff_not]
    omega
  · rw [e1]
    have : (1 : Int) ≤ (2 ^ 63 - 1) / ((n : Nat) : Int) := by
      rw [Int.le_ediv_iff_mul_le (by omega)]
      omega
    omega
  · rw [e1, Nat.one_mul, Int.toNat_natCast]
    unfold PySem.Builtin.Str.tooLong
    rw [decide_eq_false_iff_not, sizeLine_eq]
    omega


/-! ### texts of runs -/
abbrev strL (ps : List (List Nat)) : List PyData := ps.map fun p => PyData.str (sx p)
def RWv (ds : List Dat) (d : Dat) : Prop := ∃ a b : F, ds = [.d (.tuple [fr a, fr b])] ∧ 0 < a.2 ∧ a.1.natAbs < 10 ^ 1000 ∧ a.2.natAbs < 10 ^ 1000 ∧ 0 < b.2 ∧ b.1.natAbs < 10 ^ 1000 ∧ b.2.natAbs < 10 ^ 1000 ∧ d = .d (.str (sx (wr a ++ 32 :: wr b)))
def RRi (CT : Addr) (ds : List Dat) (r : Res) : Prop := ∃ l : List Nat, ds = [.d (.str (sx l))] ∧ Tx l ∧ l.length ≤ 100000 ∧ ((¬ (l.length ≤ 9 ∧ IsDec l) ∧ r = .err CT) ∨ (l.length ≤ 9 ∧ IsDec l ∧ r = .ok (.i ((digitsVal l : Nat) : Int))))
def RLo (CT : Addr) (ds : List Dat) (r : Res) : Prop := ∃ l : List Nat, ds = [.d (.str (sx l))] ∧ Tx l ∧ l.length ≤ 50000 ∧ ((l = [] ∧ r = .ok (.l [])) ∨ (l ≠ [] ∧ l.getLast? ≠ some 10 ∧ r = .err CT) ∨ (l.getLast? = some 10 ∧ r = .ok (.l (strL (splC 10 l.dropLast)))))
def RWb (CT : Addr) (ds : List Dat) (r : Res) : Prop := ∃ (f l : List Nat) (n : Nat), ds = [.d (.str (sx f)), .d (.str (sx l)), .i (n : Nat)] ∧ Tx f ∧ Tx l ∧ l.length ≤ 50000 ∧ n ≤ 1000 ∧ (((splC 32 l).head? ≠ some f ∨ (splC 32 l).length ≠ n + 1) ∧ r = .err CT ∨ ((splC 32 l).head? = some f ∧ (splC 32 l).length = n + 1 ∧ r = .ok (.l (strL (splC 32 l).tail))))
theorem a_no {K : PySem.W.Frag} {tr : TA} {ρ : Rho} {ds : List Dat} {L : Asn} : PL.A K tr ρ .no ds L := fun G H σ gh en io => io.elim
theorem s_retE {K : PySem.W.Frag} {te : TE} {ρ : Rho} {I L : Asn} {d : Dat} {k : Out} (h : PL.E K te ρ I d L) (hL : ∀ G H, ¬ L.ok G H) : S K (tRet te) ρ I k := fun G H σ D gh en io f => h G H σ gh en io _ fun v G1 H1 g1 gh1 j1 dv => absurd j1 (hL G1 H1)
def RRv (CT : Addr) (ds : List Dat) (r : Res) : Prop := ∃ a b : List Nat, ds = [.l (strL [a, b])] ∧ Tx a ∧ Tx b ∧ a.length ≤ 100000 ∧ b.length ≤ 100000 ∧ (((rdF a = none ∨ rdF b = none) ∧ r = .err CT) ∨ ∃ v w, rdF a = some v ∧ rdF b = some w ∧ r = .ok (.d (.tuple [fr v, fr w])))
abbrev nmD (z : Nm4) : PyData := .tuple [.str (sx z.k), .int (z.a : Nat), .int (z.b : Nat), .int (z.s : Nat)]
theorem st_apart : (Str.ofString "apart") = sx wApart := by rfl
theorem st_joint : (Str.ofString "joint") = sx wJoint := by rfl
theorem st_push : (Str.ofString "push") = sx wPush := by rfl
theorem st_speed : (Str.ofString "speed") = sx wSpeed := by rfl
theorem st_force : (Str.ofString "force") = sx wForce := by rfl
theorem st_step : (Str.ofString "step") = sx wStep := by rfl
abbrev vD (v : F × F) : PyData := .tuple [fr v.1, fr v.2]
abbrev pushD (v : Nat × F × F) : PyData := .tuple [.int (v.1 : Nat), vD v.2]
abbrev forceD (v : Nm4 × F) : PyData := .tuple [nmD v.1, fr v.2]
theorem rdFo_eq {k a b s m : List Nat} (ck : k = wApart ∨ k = wJoint) : rdFo [k, a, b, s, m] = match rdN a, rdN b, rdN s, rdF m with
    | some x, some y, some z, some v => some (⟨k, x, y, z⟩, v)
    | _, _, _, _ => none := by
  unfold rdFo
  dsimp only
  rw [if_pos ck]
  all_goals rfl
def RRo (CT : Addr) (ds : List Dat) (r : Res) : Prop := ∃ k a b s m : List Nat, ds = [.l (strL [k, a, b, s, m])] ∧ (Tx k ∧ Tx a ∧ Tx b ∧ Tx s ∧ Tx m) ∧ (k.length ≤ 100000 ∧ a.length ≤ 100000 ∧ b.length ≤ 100000 ∧ s.length ≤ 100000 ∧ m.length ≤ 100000) ∧ ((rdFo [k, a, b, s, m] = none ∧ r = .err CT) ∨ ∃ z, rdFo [k, a, b, s, m] = some z ∧ r = .ok (.d (forceD z)))
def RWn (ds : List Dat) (d : Dat) : Prop := ∃ z : Nm4, ds = [.d (nmD z)] ∧ z.k.length ≤ 1000 ∧ z.a < 10 ^ 10 ∧ z.b < 10 ^ 10 ∧ z.s < 10 ^ 10 ∧ d = .d (.str (sx (nmT z)))
theorem st_sp1 : (Str.ofString " ") = sx [32] := by rfl
theorem st_lf : (Str.ofString "\n") = sx [10] := by rfl
theorem wr_len {a : F} (h1 : a.1.natAbs < 10 ^ 1000) (h2 : a.2.natAbs < 10 ^ 1000) : (wr a).length ≤ 2010 := by
  have l1 := len_sg h1 (by decide)
  have l2 := dg_len h2 (by decide)
  unfold wr
  rw [List.length_append]
  split
  · simp; omega
  · rw [List.length_cons]; omega
theorem splC_pos (k : Nat) (l : List Nat) : 0 < (splC k l).length := by
  induction l with
  | nil => exact Nat.one_pos
  | cons c l ih =>
    unfold splC
    split
    · exact Nat.succ_pos _
    · split
      · exact Nat.succ_pos _
      · exact Nat.one_pos
theorem splC_len (k : Nat) (l : List Nat) : (splC k l).length ≤ l.length + 1 := by
  induction l with
  | nil => exact Nat.le_refl _
  | cons c l ih =>
    unfold splC
    split
    · rw [List.length_cons, List.length_cons]; omega
    · split
      · rename_i e; rw [e] at ih; rw [List.length_cons] at ih ⊢; rw [List.length_cons]; omega
      · simp
theorem splC_tx (k : Nat) {l : List Nat} (h : Tx l) : ∀ p ∈ splC k l, Tx p := by
  induction l with
  | nil => intro p hp; rw [List.mem_singleton.mp hp]; exact h
  | cons c l ih =>
    have ih := ih fun d hd => h d (List.mem_cons_of_mem _ hd)
    intro p hp
    unfold splC at hp
    split at hp
    · rcases List.mem_cons.mp hp with rfl | hp
      · intro d hd; cases hd
      · exact ih p hp
    · have ne : ∃ q qs, splC k l = q :: qs := by
        cases e : splC k l with
        | nil => have := splC_pos k l; rw [e] at this; cases this
        | cons q qs => exact ⟨q, qs, rfl⟩
      obtain ⟨q, qs, e⟩ := ne
      rw [e] at hp ih
      rcases List.mem_cons.mp hp with rfl | hp
      · intro d hd
        rcases List.mem_cons.mp hd with rfl | hd
        · exact h _ List.mem_cons_self
        · exact ih q List.mem_cons_self d hd
      · exact ih p (List.mem_cons_of_mem _ hp)


/-! ### parts of lines, steps -/
theorem e_callNo {sp : Sp} {X : XK} {K : PySem.W.Frag} {tr : TA} {ρ : Rho} {I : Asn} {ds : List Dat} {d : Dat} (hr : PL.A K tr ρ I ds .no) : PL.E K (tCall sp [] X tr) ρ I d .no := fun G H σ gh eN io Q q => hr G H σ gh eN io _ fun vs G1 H1 g1 gh1 j1 dvs => j1.elim
theorem e_fromNo {K : PySem.W.Frag} {te : TE} {ρ : Rho} {I L : Asn} {d e : Dat} (h : PL.E K te ρ I d .no) : PL.E K te ρ I e L := fun G H σ gh eN io Q q => h G H σ gh eN io _ fun v G1 H1 g1 gh1 j1 dv => j1.elim
theorem s_asgNo {K : PySem.W.Frag} {te : TE} {ts : TS} {ρ : Rho} {I : Asn} {d : Dat} {k : Out} {i : Nat} (h : PL.E K te ρ I d .no) : S K (tSeq (tAsg te (gName i)) ts) ρ I k := fun G H σ D gh eN io f => h G H σ gh eN io _ fun v G1 H1 g1 gh1 j1 dv => j1.elim
theorem splC_sub (k : Nat) (l : List Nat) : ∀ p ∈ splC k l, p.length ≤ l.length := by
  induction l with
  | nil => intro p hp; rw [List.mem_singleton.mp hp]; exact Nat.le_refl _
  | cons c l ih =>
    intro p hp
    unfold splC at hp
    split at hp
    · rcases List.mem_cons.mp hp with rfl | hp
      · exact Nat.zero_le _
      · have := ih p hp
        rw [List.length_cons]; omega
    · have ne := splC_ne k l
      obtain ⟨q, qs, e⟩ := ne
      rw [e] at hp ih
      rcases List.mem_cons.mp hp with rfl | hp
      · have := ih q List.mem_cons_self
        rw [List.length_cons, List.length_cons]; omega
      · have := ih p (List.mem_cons_of_mem _ hp)
        rw [List.length_cons]; omega
theorem wds_yes {f l : List Nat} {n : Nat} {ws : List (List Nat)} (h : wds f n l = some ws) : (splC 32 l).head? = some f ∧ (splC 32 l).length = n + 1 ∧ (splC 32 l).tail = ws ∧ ws.length = n ∧ ∀ p ∈ ws, p ∈ splC 32 l := by
  have h0 := h
  unfold wds at h
  by_cases c : (splC 32 l).head? = some f ∧ (splC 32 l).length = n + 1
  · rw [if_pos c] at h
    exact ⟨c.1, c.2, Option.some.inj h, (wds_back h0).2, fun p hp => List.mem_of_mem_tail (by rw [Option.some.inj h]; exact hp)⟩
  · rw [if_neg c] at h; cases h
theorem wds_no {f l : List Nat} {n : Nat} (h : wds f n l = none) : (splC 32 l).head? ≠ some f ∨ (splC 32 l).length ≠ n + 1 := by
  unfold wds at h
  by_cases c : (splC 32 l).head? = some f ∧ (splC 32 l).length = n + 1
  · rw [if_pos c] at h; cases h
  · by_cases d : (splC 32 l).head? = some f
    · exact .inr fun z => c ⟨d, z⟩
    · exact .inl d
theorem rdV_no {a b : List Nat} (h : rdV [a, b] = none) : rdF a = none ∨ rdF b = none := by
  unfold rdV at h
  dsimp only at h
  cases ea : rdF a with
  | none => exact .inl rfl
  | some x =>
    cases eb : rdF b with
    | none => exact .inr rfl
    | some y => rw [ea, eb] at h; cases h
theorem rdV_yes {a b : List Nat} {v : F × F} (h : rdV [a, b] = some v) : rdF a = some v.1 ∧ rdF b = some v.2 := by
  unfold rdV at h
  dsimp only at h
  cases ea : rdF a with
  | none => rw [ea] at h; cases h
  | some x =>
    cases eb : rdF b with
    | none => rw [ea, eb] at h; cases h
    | some y => rw [ea, eb] at h; cases h; exact ⟨rfl, rfl⟩
def rdPart (w l : List Nat) : Option PyData := if w = wPush then (rdPush l).map pushD else if w = wSpeed then (rdSpeed l).map vD else (rdForce l).map forceD
instance (l : List Nat) : Decidable (Tx l) := inferInstanceAs (Decidable (∀ c ∈ l, c < 1114112))
def RRp (CT : Addr) (ds : List Dat) (r : Res) : Prop := ∃ w l : List Nat, ds = [.d (.str (sx w)), .d (.str (sx l))] ∧ Tx w ∧ Tx l ∧ l.length ≤ 50000 ∧ (w = wPush ∨ w = wSpeed ∨ w = wForce) ∧ ((rdPart w l = none ∧ r = .err CT) ∨ ∃ x, rdPart w l = some x ∧ r = .ok (.d x))
structure FB (a : F) : Prop where
  p : 0 < a.2
  n : a.1.natAbs < 10 ^ 560
  d : a.2.natAbs < 10 ^ 560
structure FitS (s : St3) : Prop where
  hp : ∀ v ∈ s.ps, v.1 < 10 ^ 9 ∧ FB v.2.1 ∧ FB v.2.2
  hs : ∀ v ∈ s.ss, FB v.1 ∧ FB v.2
  hf : ∀ v ∈ s.fs, (v.1.k = wApart ∨ v.1.k = wJoint) ∧ v.1.a < 10 ^ 9 ∧ v.1.b < 10 ^ 9 ∧ v.1.s < 10 ^ 9 ∧ FB v.2
abbrev stepD (s : St3) : PyData := .tuple [.tuple (s.ps.map pushD), .tuple (s.ss.map vD), .tuple (s.fs.map forceD)]
abbrev runD (r : List St3) : PyData := .tuple (r.map stepD)
def RLs (ds : List Dat) (d : Dat) : Prop := ∃ s : St3, ds = [.d (stepD s)] ∧ FitS s ∧ (stLines s).length ≤ 1000 ∧ d = .l (strL (stLines s))
def RWrun (ds : List Dat) (d : Dat) : Prop := ∃ r : List St3, ds = [.d (runD r)] ∧ (∀ s ∈ r, FitS s ∧ (stLines s).length ≤ 1000) ∧ r.length ≤ 1000 ∧ (textOf r).length ≤ 20000 ∧ d = .d (.str (sx (textOf r)))
theorem jn32 (ls : List (List Nat)) : Txt.join (sx [32]) (ls.map sx) = sx (joinC 32 ls) := by
  show Builtin.Str.glued _ _ = _
  rw [StrLaws.glued_eq_join]
  refine sx_ext ?_
  rw [joinC_list, List.map_map]
  congr 1
  induction ls with
  | nil => rfl
  | cons a r ih => rw [List.map_cons, ih]; simp
theorem b560 : (10 : Nat) ^ 560 < 2 ^ 1919 := by decide +kernel
theorem few560 {i : Int} (h : i.natAbs < 10 ^ 560) : i.natAbs.log2 < 1920 := by
  by_cases h0 : i.natAbs = 0
  · rw [h0]; decide
  · rw [Nat.log2_lt h0]
    exact Nat.lt_trans h (Nat.lt_trans b560 (Nat.pow_lt_pow_right (by decide) (by decide)))
theorem rowsK_ls (n : Nat) (ls : Nat → List (List Nat)) (f : List Nat → PyData) : rowsK (fun i => (ls i).length) (fun _ _ => true) (fun i j => f ((ls i).getD j [])) n = ((List.range n).map fun i => (ls i).map f).flatten := by
  unfold rowsK
  congr 1
  apply List.map_congr_left
  intro i _
  unfold rowK
  rw [List.filter_eq_self.mpr fun _ _ => rfl]
  refine List.ext_getElem? fun j => ?_
  rw [List.getElem?_map, List.getElem?_map]
  by_cases h : j < (ls i).length
  · rw [List.getElem?_range h, List.getElem?_eq_getElem h]
    show some (f ((ls i).getD j [])) = some (f (ls i)[j])
    rw [List.getD_eq_getElem?_getD, List.getElem?_eq_getElem h]
    rfl
  · rw [List.getElem?_eq_none (show (List.range (ls i).length).length ≤ j by rw [List.length_range]; omega), List.getElem?_eq_none (show (ls i).length ≤ j by omega)]
    rfl
theorem glue_len_le {ls : List (List Nat)} {l : List Nat} (h : l ∈ ls) : l.length + 1 ≤ (glue ls).length := by
  unfold glue
  have : (l ++ [10]).length ≤ ((ls.map (· ++ [10])).flatten).length := by
    exact (List.sublist_flatten_of_mem (l := l ++ [10]) (List.mem_map.mpr ⟨l, h, rfl⟩)).length_le
  simpa using this


theorem wr_len2 {a : F} (h : FB a) : (wr a).length ≤ 1130 := by
  have l1 := len_sg h.n (by decide)
  have l2 := dg_len h.d (by decide)
  unfold wr
  rw [List.length_append]
  split
  · simp; omega
  · rw [List.length_cons]; omega
theorem vT_len {v : F × F} (h1 : FB v.1) (h2 : FB v.2) : (vT v).length ≤ 2270 := by
  have l1 := wr_len2 h1
  have l2 := wr_len2 h2
  unfold vT
  rw [List.length_append, List.length_cons]
  omega
theorem nmT_len {z : Nm4} (h0 : z.k = wApart ∨ z.k = wJoint) (h1 : z.a < 10 ^ 9) (h2 : z.b < 10 ^ 9) (h3 : z.s < 10 ^ 9) : (nmT z).length ≤ 40 := by
  have l1 := dg_len h1 (by decide)
  have l2 := dg_len h2 (by decide)
  have l3 := dg_len h3 (by decide)
  have l0 : z.k.length = 5 := by rcases h0 with e | e <;> rw [e] <;> rfl
  unfold nmT
  simp only [List.length_append, List.length_cons]
  omega
theorem st_pushS : (Str.ofString "push ") = sx (wPush ++ [32]) := by rfl
theorem st_speedS : (Str.ofString "speed ") = sx (wSpeed ++ [32]) := by rfl
theorem st_forceS : (Str.ofString "force ") = sx (wForce ++ [32]) := by rfl
theorem map_len (xs : List PyData) (f : PyData → PyData) : (xs.map f).length = xs.length := List.length_map ..


def RWord (ds : List Dat) (d : Dat) : Prop := ∃ a : F, ds = [.d (fr a)] ∧ FB a ∧ d = .d (.str (sx (wr a)))
def RText (ds : List Dat) (d : Dat) : Prop := ∃ r : List St3, ds = [.d (runD r)] ∧ (∀ s ∈ r, FitS s) ∧ (textOf r).length ≤ 20000 ∧ d = .d (.str (sx (textOf r)))
def RRr (CT : Addr) (ds : List Dat) (r : Res) : Prop := ∃ l : List Nat, ds = [.d (.str (sx l))] ∧ Tx l ∧ l.length ≤ 50000 ∧ ((rdRun l = none ∧ r = .err CT) ∨ ∃ x, rdRun l = some x ∧ r = .ok (.d (runD x)))
theorem st_stepL : (Str.ofString "step\n") = sx (wStep ++ [10]) := by rfl
theorem glue_cons (l : List Nat) (ls : List (List Nat)) : glue (l :: ls) = l ++ 10 :: glue ls := by unfold glue; simp
theorem glue_app (ls ms : List (List Nat)) : glue (ls ++ ms) = glue ls ++ glue ms := by unfold glue; simp
theorem all_cons (s : St3) (r : List St3) : linesAll (s :: r) = stLines s ++ linesAll r := by unfold linesAll; simp
def Lay (n : Nat) (x : PyData) : Prop := x.canLay0 = true ∧ x.depth ≤ n
theorem depth_all {n : Nat} : ∀ {xs : List PyData}, (∀ x ∈ xs, x.depth ≤ n) → PyData.depthAll xs ≤ n
  | [], _ => Nat.zero_le _
  | m :: ms, h => by
    have ih := depth_all (xs := ms) fun x hx => h x (List.mem_cons_of_mem _ hx)
    show max m.depth (PyData.depthAll ms) ≤ n
    have := h m List.mem_cons_self
    omega
theorem lay_tup {n : Nat} {xs : List PyData} (h : ∀ x ∈ xs, Lay n x) : Lay (n + 1) (.tuple xs) := ⟨show PyData.canLayAll0 xs = true from L2.canAll fun d hd => (h d hd).1, by
  show PyData.depthAll xs + 1 ≤ _
  have := depth_all fun x hx => (h x hx).2
  omega⟩
theorem lay_lst {n : Nat} {xs : List PyData} (h : ∀ x ∈ xs, Lay n x) : Lay (n + 1) (.list xs) := ⟨show PyData.canLayAll0 xs = true from L2.canAll fun d hd => (h d hd).1, by
  show PyData.depthAll xs + 1 ≤ _
  have := depth_all fun x hx => (h x hx).2
  omega⟩
theorem Lay.shaped {n : Nat} {x : PyData} (h : Lay n x) (hn : n ≤ 64) : SeqAt.shaped x = true := by
  unfold SeqAt.shaped
  rw [Bool.and_eq_true, decide_eq_true_iff]
  exact ⟨h.1, Nat.le_trans h.2 hn⟩
theorem lay_str {l : List Nat} (h : Tx l) : Lay 0 (.str (sx l)) := by
  have := sh_str h
  unfold SeqAt.shaped at this
  rw [Bool.and_eq_true] at this
  exact ⟨this.1, Nat.le_refl _⟩
theorem Lay.mono {m n : Nat} {x : PyData} (h : Lay m x) (hm : m ≤ n) : Lay n x := ⟨h.1, Nat.le_trans h.2 hm⟩
theorem lay_int (i : Int) : Lay 0 (.int i) := ⟨rfl, Nat.le_refl _⟩
theorem mem2 {α : Type} {P : α → Prop} {a b : α} (ha : P a) (hb : P b) : ∀ x ∈ [a, b], P x := fun x hx => by
  rcases List.mem_cons.mp hx with rfl | hx
  · exact ha
  · rw [List.mem_singleton.mp hx]; exact hb
theorem memc {α : Type} {P : α → Prop} {a : α} {r : List α} (ha : P a) (hr : ∀ x ∈ r, P x) : ∀ x ∈ a :: r, P x := fun x hx => by
  rcases List.mem_cons.mp hx with rfl | hx
  · exact ha
  · exact hr x hx
theorem memn {α : Type} {P : α → Prop} : ∀ x ∈ ([] : List α), P x := fun _ h => nomatch h
theorem lay_fr (a : F) : Lay 1 (fr a) := lay_tup (memc (lay_int _) (memc (lay_int _) memn))
theorem lay_vD (v : F × F) : Lay 2 (vD v) := lay_tup (memc (lay_fr _) (memc (lay_fr _) memn))
theorem lay_pushD (v : Nat × F × F) : Lay 3 (pushD v) := lay_tup (memc ((lay_int _).mono (by decide)) (memc (lay_vD _) memn))
theorem lay_nmD {z : Nm4} (h : z.k = wApart ∨ z.k = wJoint) : Lay 1 (nmD z) := lay_tup (memc (lay_str (by rcases h with e | e <;> rw [e] <;> decide)) (memc (lay_int _) (memc (lay_int _) (memc (lay_int _) memn))))
theorem lay_forceD {v : Nm4 × F} (h : v.1.k = wApart ∨ v.1.k = wJoint) : Lay 2 (forceD v) := lay_tup (memc (lay_nmD h) (memc (lay_fr _) memn))
theorem lay_map {α : Type} {n : Nat} {f : α → PyData} {l : List α} (h : ∀ v ∈ l, Lay n (f v)) : ∀ x ∈ l.map f, Lay n x := fun x hx => by
  obtain ⟨v, hv, rfl⟩ := List.mem_map.mp hx
  exact h v hv
def KOk (s : St3) : Prop := ∀ v ∈ s.fs, v.1.k = wApart ∨ v.1.k = wJoint
theorem lay_stepD {s : St3} (h : KOk s) : Lay 5 (stepD s) := lay_tup (memc (lay_tup (lay_map fun v _ => lay_pushD v)) (memc (lay_tup (lay_map fun v _ => (lay_vD v).mono (by decide))) (memc (lay_tup (lay_map fun v hv => (lay_forceD (h v hv)).mono (by decide))) memn)))
theorem lay_runD {r : List St3} (h : ∀ s ∈ r, KOk s) : Lay 6 (runD r) := lay_tup (lay_map fun s hs => lay_stepD (h s hs))
/-- a step while it is read -/
abbrev p3 (s : St3) : P3 := ⟨s.ps.map pushD, s.ss.map vD, s.fs.map forceD⟩
abbrev stepL (s : St3) : PyData := (p3 s).d
theorem lay_stepL {s : St3} (h : KOk s) : Lay 5 (stepL s) := lay_tup (memc (lay_lst (lay_map fun v _ => lay_pushD v)) (memc (lay_lst (lay_map fun v _ => (lay_vD v).mono (by decide))) (memc (lay_lst (lay_map fun v hv => (lay_forceD (h v hv)).mono (by decide))) memn)))
theorem shaped_stepsL {r : List St3} (h : ∀ s ∈ r, KOk s) : SeqAt.shaped (.list (r.map stepL)) = true := (lay_lst (lay_map fun s hs => lay_stepL (h s hs))).shaped (by decide)
def curR : Option (A4 × RS) → Option RS
  | none => none
  | some a => some a.2
def partR : Option (A4 × RS) → Nat
  | none => 0
  | some a => a.2.part
def asnR (K : PySem.W.Frag) (q : Addr) (I : Asn) : Option (A4 × RS) → Asn
  | none => lJ K q [] I
  | some a => sJ K q a.1 (a.2.done.map stepL) (p3 a.2.cur) I
structure GoodR (q : Addr) (I : Asn) (i : Nat) (a : A4 × RS) : Prop where
  ok : a.1.ok q
  nf : ∀ z, z = a.1.a ∨ z = a.1.b ∨ z = a.1.c → ¬ I.foot z
  pt : a.2.part < 3
  ld : a.2.done.length ≤ i
  lp : a.2.cur.ps.length ≤ i
  ls : a.2.cur.ss.length ≤ i
  lf : a.2.cur.fs.length ≤ i
theorem s_asnR {K : PySem.W.Frag} {us : TS} {ρ : Rho} {k : Out} {q : Addr} {I : Asn} {n : Nat} {a : Option (A4 × RS)} (hg : ∀ z, a = some z → GoodR q I n z) (h : S K us ρ (lJ K q ((stepsOf (curR a)).map stepL) I) k) : S K us ρ (asnR K q I a) k := by
  cases a with
  | none => exact h
  | some a =>
    obtain ⟨w0, s⟩ := a
    have g := hg _ rfl
    refine s_told (i := 1) g.ok g.nf ?_
    have e9 : s.done.map stepL ++ [(p3 s.cur).d] = (stepsOf (curR (some (w0, s)))).map stepL := by
      show _ = (s.done ++ [s.cur]).map stepL
      rw [List.map_append]
      rfl
    rw [e9]
    exact h
def words3 : List (List Nat) := [wPush, wSpeed, wForce]
/-- the place of a word -/
theorem nextL_word {s : RS} {l : List Nat} (h0 : l ≠ wStep) : (¬ (word l ∈ words3.drop s.part) ∧ nextL (some s) l = none) ∨ (s.part < 3 → ∃ j, j < 3 ∧ s.part ≤ j ∧ words3[j]? = some (word l) ∧ word l ∈ words3.drop s.part ∧
    (rdPart (word l) l = none → nextL (some s) l = none) ∧ ∀ x, rdPart (word l) l = some x → ∃ s', nextL (some s) l = some s' ∧ s'.part = j ∧ s'.done = s.done ∧ p3 s'.cur = (p3 s.cur).add j x ∧ s'.cur.ps.length ≤ s.cur.ps.length + 1 ∧ s'.cur.ss.length ≤ s.cur.ss.length + 1 ∧ s'.cur.fs.length ≤ s.cur.fs.length + 1) := by
  have e0 : nextL (some s) l = (if word l = wPush then (if s.part ≤ 0 then (rdPush l).map fun v => ⟨s.done, ⟨s.cur.ps ++ [v], s.cur.ss, s.cur.fs⟩, 0⟩ else none)
    else if word l = wSpeed then (if s.part ≤ 1 then (rdSpeed l).map fun v => ⟨s.done, ⟨s.cur.ps, s.cur.ss ++ [v], s.cur.fs⟩, 1⟩ else none)
    else if word l = wForce then ((rdForce l).map fun v => ⟨s.done, ⟨s.cur.ps, s.cur.ss, s.cur.fs ++ [v]⟩, 2⟩)
    else none) := by unfold nextL; rw [if_neg h0]
  rw [e0]
  have dm : ∀ {p : Nat}, word l ∈ words3.drop p → word l ∈ words3 := fun h => List.mem_of_mem_drop h
  by_cases c1 : word l = wPush
  · rw [if_pos c1]
    by_cases cp : s.part ≤ 0
    · have p0 : s.part = 0 := by omega
      refine .inr fun _ => ⟨0, by decide, by omega, by rw [c1]; rfl, by rw [c1, p0]; decide, fun h => ?_, fun x h => ?_⟩
      · unfold rdPart at h
        rw [if_pos c1, Option.map_eq_none_iff] at h
        rw [if_pos cp, h]
        rfl
      · unfold rdPart at h
        rw [if_pos c1, Option.map_eq_some_iff] at h
        obtain ⟨v, hv, rfl⟩ := h
        rw [if_pos cp, hv]
        exact ⟨_, rfl, rfl, rfl, by simp [p3, P3.add], by simp, by simp, by simp⟩
    · refine .inl ⟨fun h => ?_, by rw [if_neg cp]⟩
      rw [c1] at h
      have : s.part = 1 ∨ s.part = 2 ∨ 3 ≤ s.part := by omega
      rcases this with e | e | e
      · rw [e] at h; revert h; decide
      · rw [e] at h; revert h; decide
      · rw [List.drop_of_length_le (show words3.length ≤ s.part from e)] at h; cases h
  rw [if_neg c1]
  by_cases c2 : word l = wSpeed
  · rw [if_pos c2]
    by_cases cp : s.part ≤ 1
    · refine .inr fun _ => ⟨1, by decide, by omega, by rw [c2]; rfl, ?_, fun h => ?_, fun x h => ?_⟩
      · rw [c2]
        have : s.part = 0 ∨ s.part = 1 := by omega
        rcases this with e | e <;> rw [e] <;> decide
      · unfold rdPart at h
        rw [if_neg c1, if_pos c2, Option.map_eq_none_iff] at h
        rw [if_pos cp, h]
        rfl
      · unfold rdPart at h
        rw [if_neg c1, if_pos c2, Option.map_eq_some_iff] at h
        obtain ⟨v, hv, rfl⟩ := h
        rw [if_pos cp, hv]
        exact ⟨_, rfl, rfl, rfl, by simp [p3, P3.add], by simp, by simp, by simp⟩
    · refine .inl ⟨fun h => ?_, by rw [if_neg cp]⟩
      rw [c2] at h
      have : s.part = 2 ∨ 3 ≤ s.part := by omega
      rcases this with e | e
      · rw [e] at h; revert h; decide
      · rw [List.drop_of_length_le (show words3.length ≤ s.part from e)] at h; cases h
  rw [if_neg c2]
  by_cases c3 : word l = wForce
  · rw [if_pos c3]
    refine .inr fun pt => ⟨2, by decide, by omega, by rw [c3]; rfl, ?_, fun h => ?_, fun x h => ?_⟩
    · rw [c3]
      have : s.part = 0 ∨ s.part = 1 ∨ s.part = 2 := by omega
      rcases this with e | e | e <;> rw [e] <;> decide
    · unfold rdPart at h
      rw [if_neg c1, if_neg c2, Option.map_eq_none_iff] at h
      rw [h]
      rfl
    · unfold rdPart at h
      rw [if_neg c1, if_neg c2, Option.map_eq_some_iff] at h
      obtain ⟨v, hv, rfl⟩ := h
      rw [hv]
      exact ⟨_, rfl, rfl, rfl, by simp [p3, P3.add], by simp, by simp, by simp⟩
  · rw [if_neg c3]
    refine .inl ⟨fun h => ?_, rfl⟩
    have := dm h
    unfold words3 at this
    rcases List.mem_cons.mp this with h | h
    · exact c1 h
    rcases List.mem_cons.mp h with h | h
    · exact c2 h
    · exact c3 (List.mem_singleton.mp h)


/-! ### the law -/
abbrev tldD (l : List Nat) : PyData := match rdRun l with
  | some r => runD r
  | none => .str (sx [116, 101, 120, 116])
def RTdR (ds : List Dat) (d : Dat) : Prop := ∃ l : List Nat, ds = [.d (.str (sx l))] ∧ Tx l ∧ l.length ≤ 50000 ∧ d = .d (tldD l)
theorem st_text : (Str.ofString "text") = sx [116, 101, 120, 116] := by rfl
theorem st_other : (Str.ofString "other") = sx [111, 116, 104, 101, 114] := by rfl
structure PartOk (a : F) : Prop where
  n : Nrm a
  t : a.1.natAbs ≤ 80
  b : a.2 ≤ 3
theorem part40 {C : DS} {m : Int} (ok : DOk C) (h0 : 0 ≤ m) (h1 : m ≤ 40) : DOk (partM C m).2 ∧ PartOk (partM C m).1 := by
  obtain ⟨o1, b1, b2⟩ := take_ok (C := C) (m := 2 * (m * 2) + 1) ok (by omega)
  obtain ⟨o2, b3, b4⟩ := take_ok (C := (take C (2 * (m * 2) + 1)).2) (m := 3) o1 (by decide)
  obtain ⟨l1, l2⟩ := lf_le (n := (take C (2 * (m * 2) + 1)).1 - m * 2) (m := 1 + (take (take C (2 * (m * 2) + 1)).2 3).1) (by omega)
  have nn := lf_nrm (n := (take C (2 * (m * 2) + 1)).1 - m * 2) (d := 1 + (take (take C (2 * (m * 2) + 1)).2 3).1) (by omega)
  refine ⟨o2, nn, ?_, ?_⟩
  · refine Nat.le_trans l1 ?_
    omega
  · have := nn.1
    replace this : 0 < (partM C m).1.2 := this
    replace l2 : (partM C m).1.2.natAbs ≤ (1 + (take (take C (2 * (m * 2) + 1)).2 3).1).natAbs := l2
    omega
theorem vec40 {C : DS} {m : Int} (ok : DOk C) (h0 : 0 ≤ m) (h1 : m ≤ 40) : DOk (vecM C m).2 ∧ PartOk (vecM C m).1.1 ∧ PartOk (vecM C m).1.2 := by
  obtain ⟨o1, p1⟩ := part40 ok h0 h1
  obtain ⟨o2, p2⟩ := part40 o1 h0 h1
  exact ⟨o2, p1, p2⟩
theorem wr5 {a : F} (h : PartOk a) : (wr a).length ≤ 5 := by
  have l1 := len_sg (i := a.1) (k := 2) (by have := h.t; omega) (by decide)
  have p := h.n.1
  have l2 := dg_len (n := a.2.natAbs) (k := 1) (by have := h.b; omega) (by decide)
  unfold wr
  rw [List.length_append]
  split
  · simp; omega
  · rw [List.length_cons]; omega
theorem cw_sg (i : Int) : Cw (sg i) := fun c hc => by
  unfold sg at hc
  split at hc
  · rcases List.mem_cons.mp hc with rfl | hc
    · decide
    · exact cw_dg _ c hc
  · exact cw_dg _ c hc
theorem cw_wr (a : F) : Cw (wr a) := fun c hc => by
  unfold wr at hc
  rcases List.mem_append.mp hc with hc | hc
  · exact cw_sg _ c hc
  · split at hc
    · cases hc
    · rcases List.mem_cons.mp hc with rfl | hc
      · decide
      · exact cw_dg _ c hc
theorem PartOk.fw {a : F} (h : PartOk a) : Fw a := ⟨by
  unfold rdF
  rw [if_neg (by have := wr5 h; omega), read_wr h.n], cw_wr a⟩
theorem p560 : (1000 : Nat) ≤ 10 ^ 560 := Nat.le_trans (show 1000 ≤ 10 ^ 3 by decide) (Nat.pow_le_pow_right (by decide) (by decide))
theorem PartOk.fb {a : F} (h : PartOk a) : FB a := by
  have h1 := h.n.1
  have h2 := h.t
  have h3 := h.b
  exact ⟨h1, Nat.lt_of_lt_of_le (show _ < 1000 by omega) p560, Nat.lt_of_lt_of_le (show _ < 1000 by omega) p560⟩
def PG (v : Nat × F × F) : Prop := v.1 < 10 ∧ PartOk v.2.1 ∧ PartOk v.2.2
def SG_ (v : F × F) : Prop := PartOk v.1 ∧ PartOk v.2
def FG (v : Nm4 × F) : Prop := (v.1.k = wApart ∨ v.1.k = wJoint) ∧ v.1.a < 10 ∧ v.1.b < 100 ∧ v.1.s < 10 ∧ PartOk v.2
structure StG (s : St3) : Prop where
  gp : ∀ v ∈ s.ps, PG v
  gs : ∀ v ∈ s.ss, SG_ v
  gf : ∀ v ∈ s.fs, FG v
  lp : s.ps.length ≤ 2
  ls : s.ss.length ≤ 3
  lf : s.fs.length ≤ 3
theorem StG.w {s : St3} (h : StG s) : StepW s := ⟨fun v hv => let g := h.gp v hv; ⟨by have := g.1; omega, g.2.1.fw, g.2.2.fw⟩, fun v hv => let g := h.gs v hv; ⟨g.1.fw, g.2.fw⟩, fun v hv => let g := h.gf v hv; ⟨g.1, by have := g.2.1; omega, by have := g.2.2.1; omega, by have := g.2.2.2.1; omega, g.2.2.2.2.fw⟩⟩
theorem StG.fit {s : St3} (h : StG s) : FitS s := ⟨fun v hv => let g := h.gp v hv; ⟨by have := g.1; omega, g.2.1.fb, g.2.2.fb⟩, fun v hv => let g := h.gs v hv; ⟨g.1.fb, g.2.fb⟩, fun v hv => let g := h.gf v hv; ⟨g.1, by have := g.2.1; omega, by have := g.2.2.1; omega, by have := g.2.2.2.1; omega, g.2.2.2.2.fb⟩⟩
theorem StG.kok {s : St3} (h : StG s) : KOk s := fun v hv => (h.gf v hv).1
theorem StG.lines {s : St3} (h : StG s) : (stLines s).length ≤ 9 := by
  have h1 := h.lp
  have h2 := h.ls
  have h3 := h.lf
  unfold stLines
  simp only [List.length_cons, List.length_append, List.length_map]
  omega
theorem StG.line {s : St3} (h : StG s) : ∀ l ∈ stLines s, l.length ≤ 24 := fun l hl => by
  unfold stLines at hl
  rcases List.mem_cons.mp hl with rfl | hl
  · decide
  rcases List.mem_append.mp hl with hl | hl
  · obtain ⟨v, hv, rfl⟩ := List.mem_map.mp hl
    have g := h.gp v hv
    have l1 := dg_len (n := v.1) (k := 1) (by have := g.1; omega) (by decide)
    have l2 := wr5 g.2.1
    have l3 := wr5 g.2.2
    unfold pushL vT
    simp only [List.length_append, List.length_cons, List.length_nil]
    omega
  rcases List.mem_append.mp hl with hl | hl
  · obtain ⟨v, hv, rfl⟩ := List.mem_map.mp hl
    have g := h.gs v hv
    have l2 := wr5 g.1
    have l3 := wr5 g.2
    unfold speedL vT
    simp only [List.length_append, List.length_cons, List.length_nil]
    omega
  · obtain ⟨v, hv, rfl⟩ := List.mem_map.mp hl
    have g := h.gf v hv
    have l0 : v.1.k.length = 5 := by rcases g.1 with e | e <;> rw [e] <;> rfl
    have l1 := dg_len (n := v.1.a) (k := 1) (by have := g.2.1; omega) (by decide)
    have l2 := dg_len (n := v.1.b) (k := 2) (by have := g.2.2.1; omega) (by decide)
    have l3 := dg_len (n := v.1.s) (k := 1) (by have := g.2.2.2.1; omega) (by decide)
    have l4 := wr5 g.2.2.2.2
    unfold forceL
    simp only [List.length_append, List.length_cons, List.length_nil]
    omega
theorem glue_le {m : Nat} : ∀ {ls : List (List Nat)}, (∀ l ∈ ls, l.length ≤ m) → (glue ls).length ≤ ls.length * (m + 1)
  | [], _ => Nat.zero_le _
  | l :: ls, h => by
    have ih := glue_le (ls := ls) fun x hx => h x (List.mem_cons_of_mem _ hx)
    have := h l List.mem_cons_self
    rw [glue_cons, List.length_append, List.length_cons, List.length_cons, Nat.add_mul]
    omega
theorem StG.sz {s : St3} (h : StG s) : (glue (stLines s)).length ≤ 172 := by
  have h1 := h.lp
  have h2 := h.ls
  have h3 := h.lf
  have a1 : (glue (s.ps.map pushL)).length ≤ s.ps.length * 19 := by
    have := glue_le (m := 18) (ls := s.ps.map pushL) fun l hl => by
      obtain ⟨v, hv, rfl⟩ := List.mem_map.mp hl
      have g := h.gp v hv
      have l1 := dg_len (n := v.1) (k := 1) (by have := g.1; omega) (by decide)
      have l2 := wr5 g.2.1
      have l3 := wr5 g.2.2
      unfold pushL vT
      simp only [List.length_append, List.length_cons, List.length_nil]
      omega
    rw [List.length_map] at this
    exact this
  have a2 : (glue (s.ss.map speedL)).length ≤ s.ss.length * 18 := by
    have := glue_le (m := 17) (ls := s.ss.map speedL) fun l hl => by
      obtain ⟨v, hv, rfl⟩ := List.mem_map.mp hl
      have g := h.gs v hv
      have l2 := wr5 g.1
      have l3 := wr5 g.2
      unfold speedL vT
      simp only [List.length_append, List.length_cons, List.length_nil]
      omega
    rw [List.length_map] at this
    exact this
  have a3 : (glue (s.fs.map forceL)).length ≤ s.fs.length * 25 := by
    have := glue_le (m := 24) (ls := s.fs.map forceL) fun l hl => h.line l (by
      unfold stLines
      exact List.mem_cons_of_mem _ (List.mem_append_right _ (List.mem_append_right _ hl)))
    rw [List.length_map] at this
    exact this
  unfold stLines
  rw [glue_cons, glue_app, glue_app]
  simp only [List.length_append, List.length_cons, List.length_nil]
  omega
structure RunG (r : List St3) : Prop where
  s : ∀ s ∈ r, StG s
  l : r.length ≤ 3
theorem RunG.all {r : List St3} (h : ∀ s ∈ r, StG s) : (textOf r).length ≤ r.length * 172 := by
  induction r with
  | nil => exact Nat.zero_le _
  | cons s r ih =>
    have ih := ih fun x hx => h x (List.mem_cons_of_mem _ hx)
    have := (h s List.mem_cons_self).sz
    unfold textOf at ih ⊢
    rw [all_cons, glue_app, List.length_append, List.length_cons]
    omega
theorem RunG.sz {r : List St3} (h : RunG r) : (textOf r).length ≤ 516 := by
  have := RunG.all h.s
  have := h.l
  omega
def RRunN (ds : List Dat) (C : DS) (Z : Asn) (Po : Dat → DS → Prop) : Prop := ds = [] ∧ DOk C ∧ Z = .tt ∧ Po = fun d C' => DOk C' ∧ ∃ r : List St3, d = .d (runD r) ∧ RunG r
def sigs17 : List Nat := [48, 49, 50, 51, 52, 53, 54, 55, 56, 57, 45, 47, 32, 10, 115, 116, 112]
def RBentR (ds : List Dat) (C : DS) (Z : Asn) (Po : Dat → DS → Prop) : Prop := ∃ l : List Nat, ds = [.d (.str (sx l))] ∧ Tx l ∧ l.length ≤ 516 ∧ (∀ p ∈ splC 10 l, p.length ≤ 24) ∧ DOk C ∧ Z = .tt ∧ Po = fun d C' => DOk C' ∧ ∃ m : List Nat, d = .d (.str (sx m)) ∧ Tx m ∧ m.length ≤ 550
theorem tx_glue {ls : List (List Nat)} (h : ∀ l ∈ ls, Tx l) : Tx (glue ls) := fun c hc => by
  unfold glue at hc
  obtain ⟨m, hm, hc⟩ := List.mem_flatten.mp hc
  obtain ⟨l, hl, rfl⟩ := List.mem_map.mp hm
  rcases List.mem_append.mp hc with hc | hc
  · exact h l hl c hc
  · rw [List.mem_singleton.mp hc]; decide
theorem tx_joinC {k : Nat} (hk : k < 1114112) : ∀ {ls : List (List Nat)}, (∀ l ∈ ls, Tx l) → Tx (joinC k ls)
  | [], _ => fun c hc => nomatch hc
  | [x], h => h x List.mem_cons_self
  | x :: y :: r, h => by
    have ih := tx_joinC hk (ls := y :: r) fun l hl => h l (List.mem_cons_of_mem _ hl)
    intro c hc
    rcases List.mem_append.mp (show c ∈ x ++ k :: joinC k (y :: r) from hc) with hc | hc
    · exact h x List.mem_cons_self c hc
    · rcases List.mem_cons.mp hc with rfl | hc
      · exact hk
      · exact ih c hc
theorem join_glue (ls : List (List Nat)) : (joinC 10 ls).length ≤ (glue ls).length := by
  by_cases h : ls = []
  · rw [h]; exact Nat.le_refl _
  · rw [← glue_join h, List.length_append]; omega
theorem glue_spl (l : List Nat) : (glue (splC 10 l)).length = l.length + 1 := by
  obtain ⟨q, qs, e⟩ := splC_ne 10 l
  rw [← glue_join (by rw [e]; exact List.cons_ne_nil _ _), join_spl, List.length_append, List.length_singleton]
theorem glue_td (ls : List (List Nat)) (h : Nat) : (glue (ls.take h)).length + (glue (ls.drop h)).length = (glue ls).length := by
  rw [← List.length_append, ← glue_app, List.take_append_drop]
theorem glue_rev (ls : List (List Nat)) : (glue ls.reverse).length = (glue ls).length := by
  induction ls with
  | nil => rfl
  | cons x r ih =>
    rw [List.reverse_cons, glue_app, List.length_append, ih, glue_cons, glue_cons, List.length_append, List.length_append, List.length_cons, List.length_cons]
    show _ + (x.length + (0 + 1)) = _
    omega
theorem pow_len {a : F} {n : Nat} (hp : 0 < a.2) (h : (wr a).length ≤ n) (hn : n ≤ 560) : FB a := by
  unfold wr at h
  rw [List.length_append] at h
  have s1 : a.1.natAbs < 10 ^ (sg a.1).length := by
    have := lt_dg a.1.natAbs
    unfold sg
    split
    · exact Nat.lt_of_lt_of_le this (Nat.pow_le_pow_right (by decide) (by rw [List.length_cons]; omega))
    · exact this
  refine ⟨hp, Nat.lt_of_lt_of_le s1 (Nat.pow_le_pow_right (by decide) (by omega)), ?_⟩
  by_cases c : a.2 = 1
  · rw [c]
    exact Nat.lt_of_lt_of_le (show Int.natAbs 1 < 1000 by decide) p560
  · rw [if_neg c, List.length_cons] at h
    exact Nat.lt_of_lt_of_le (lt_dg _) (Nat.pow_le_pow_right (by decide) (by omega))
theorem fit_of {r : List St3} (h : ∀ s ∈ r, StepOk s) (hl : (textOf r).length ≤ 560) : ∀ s ∈ r, FitS s := fun s hs => by
  have big : ∀ l ∈ stLines s, l.length ≤ 560 := fun l hl' => by
    have : l ∈ linesAll r := List.mem_flatten.mpr ⟨_, List.mem_map.mpr ⟨s, hs, rfl⟩, hl'⟩
    have := glue_len_le this
    unfold textOf at hl
    omega
  have o := h s hs
  refine ⟨fun v hv => ?_, fun v hv => ?_, fun v hv => ?_⟩
  · have g := o.hp v hv
    have b := big (pushL v) (by unfold stLines; exact List.mem_cons_of_mem _ (List.mem_append_left _ (List.mem_map.mpr ⟨v, hv, rfl⟩)))
    unfold pushL vT at b
    simp only [List.length_append, List.length_cons] at b
    exact ⟨g.1, pow_len g.2.1 (n := 560) (by omega) (by decide), pow_len g.2.2 (n := 560) (by omega) (by decide)⟩
  · have g := o.hs v hv
    have b := big (speedL v) (by unfold stLines; exact List.mem_cons_of_mem _ (List.mem_append_right _ (List.mem_append_left _ (List.mem_map.mpr ⟨v, hv, rfl⟩))))
    unfold speedL vT at b
    simp only [List.length_append, List.length_cons] at b
    exact ⟨pow_len g.1 (n := 560) (by omega) (by decide), pow_len g.2 (n := 560) (by omega) (by decide)⟩
  · have g := o.hf v hv
    have b := big (forceL v) (by unfold stLines; exact List.mem_cons_of_mem _ (List.mem_append_right _ (List.mem_append_right _ (List.mem_map.mpr ⟨v, hv, rfl⟩))))
    unfold forceL at b
    simp only [List.length_append, List.length_cons] at b
    exact ⟨g.k, g.a, g.b, g.s, pow_len g.f (n := 560) (by omega) (by decide)⟩
theorem tx_text {r : List St3} (h : RunG r) : Tx (textOf r) := tx_glue fun l hl => by
  unfold linesAll at hl
  obtain ⟨m, hm, hl⟩ := List.mem_flatten.mp hl
  obtain ⟨s, hs, rfl⟩ := List.mem_map.mp hm
  have g := h.s s hs
  have txc : ∀ {a b : List Nat}, Tx a → Tx b → Tx (a ++ 32 :: b) := fun ha hb c hc => by
    rcases List.mem_append.mp hc with hc | hc
    · exact ha c hc
    · rcases List.mem_cons.mp hc with rfl | hc
      · decide
      · exact hb c hc
  unfold stLines at hl
  rcases List.mem_cons.mp hl with rfl | hl
  · decide
  rcases List.mem_append.mp hl with hl | hl
  · obtain ⟨v, hv, rfl⟩ := List.mem_map.mp hl
    exact txc (by decide) (txc (tx_dg _) (txc (tx_wr _) (tx_wr _)))
  rcases List.mem_append.mp hl with hl | hl
  · obtain ⟨v, hv, rfl⟩ := List.mem_map.mp hl
    exact txc (by decide) (txc (tx_wr _) (tx_wr _))
  · obtain ⟨v, hv, rfl⟩ := List.mem_map.mp hl
    have gk := (g.gf v hv).1
    exact txc (by decide) (txc (by rcases gk with e | e <;> rw [e] <;> decide) (txc (tx_dg _) (txc (tx_dg _) (txc (tx_dg _) (tx_wr _)))))
theorem spl_text {r : List St3} (h : RunG r) : ∀ p ∈ splC 10 (textOf r), p.length ≤ 24 := by
  by_cases h0 : linesAll r = []
  · unfold textOf
    rw [h0]
    intro p hp
    rw [List.mem_singleton.mp hp]
    exact Nat.zero_le _
  · have e : splC 10 (textOf r) = linesAll r ++ [[]] := by
      have e1 : textOf r = joinC 10 (linesAll r ++ [[]]) := by
        have : glue (linesAll r) = joinC 10 (linesAll r ++ [[]]) := by
          generalize linesAll r = ls at h0
          clear h
          induction ls with
          | nil => exact absurd rfl h0
          | cons x xs ih =>
            cases xs with
            | nil => simp [glue, joinC]
            | cons y ys =>
              rw [glue_cons, ih (List.cons_ne_nil _ _)]
              rfl
        exact this
      rw [e1]
      exact splC_uni (by simp) fun p hp => by
        rcases List.mem_append.mp hp with hp | hp
        · exact cl_all (fun s hs => (h.s s hs).w) p hp
        · rw [List.mem_singleton.mp hp]; decide
    rw [e]
    intro p hp
    rcases List.mem_append.mp hp with hp | hp
    · unfold linesAll at hp
      obtain ⟨m, hm, hp⟩ := List.mem_flatten.mp hp
      obtain ⟨s, hs, rfl⟩ := List.mem_map.mp hm
      exact (h.s s hs).line p hp
    · rw [List.mem_singleton.mp hp]; exact Nat.zero_le _


theorem jnC (k : Nat) (ls : List (List Nat)) : Txt.join (sx [k]) (ls.map sx) = sx (joinC k ls) := by
  show Builtin.Str.glued _ _ = _
  rw [StrLaws.glued_eq_join]
  refine sx_ext ?_
  rw [joinC_list, List.map_map]
  congr 1
  induction ls with
  | nil => rfl
  | cons a r ih => rw [List.map_cons, ih]; simp
theorem glue_sum (ls : List (List Nat)) : ((ls.map sx).map (·.length)).sum + (ls.map sx).length * (Str.ofString "\n").length = (glue ls).length := by
  have e1 : (Str.ofString "\n").length = 1 := rfl
  rw [e1, Nat.mul_one]
  induction ls with
  | nil => rfl
  | cons x r ih =>
    rw [glue_cons, List.length_append, List.length_cons, ← ih]
    simp only [List.map_cons, List.sum_cons, List.length_cons, sx_len]
    omega
theorem glue_at {ls : List (List Nat)} {h : Nat} (hh : h < ls.length) : (glue (ls.drop h)).length = (ls[h]).length + 1 + (glue (ls.drop (h + 1))).length := by
  rw [List.drop_eq_getElem_cons hh, glue_cons, List.length_append, List.length_cons]
  omega
theorem cutS_last {l : List Nat} (h : l ≠ []) : cutS (sx l) (some (-1)) none = sx [l.getLast h] := by
  refine sx_ext ?_
  unfold cutS
  rw [sx_len]
  have e : (sx l).cps.toList = l := by simp
  rw [e]
  show (((l.drop _).take _).toArray).toList = _
  rw [List.toList_toArray]
  have hl := List.length_pos_iff.mpr h
  have h0 : HT.sIx l.length l.length none = l.length := rfl
  have h1 : HT.sIx l.length 0 (some (-1)) = l.length - 1 := by
    show (if (-1 : Int) < 0 then ((-1 : Int) + (l.length : Int)).toNat else min (-1 : Int).toNat l.length) = _
    rw [if_pos (by decide)]
    omega
  rw [h0, h1]
  have e2 := List.dropLast_concat_getLast h
  have e3 : l.drop (l.length - 1) = [l.getLast h] := by
    conv => lhs; rw [← e2]
    rw [List.drop_append_of_le_length (by rw [List.length_dropLast]; simp), List.drop_of_length_le (by rw [List.length_dropLast]; simp)]
    rfl
  rw [e3]
  have : l.length - (l.length - 1) = 1 := by omega
  rw [this]
  rfl
theorem sh_tld (m : List Nat) : SeqAt.shaped (tldD m) = true := by
  unfold tldD
  cases e : rdRun m with
  | none => exact sh_str (by decide)
  | some r => exact (lay_runD fun s hs v hv => ((rdRun_back e).2 s hs).hf v hv |>.k).shaped (by decide)
theorem eqv_run_text (r : List St3) (l : List Nat) : PyData.eqv (runD r) (.str (sx l)) = false := by
  cases r <;> rfl
theorem st_sp00 : (Str.ofString "speed 0 0\n") = sx [115, 112, 101, 101, 100, 32, 48, 32, 48, 10] := by rfl
theorem st_17 : (Str.ofString "0123456789-/ \nstp").cps.toList.length = 17 := by decide +kernel
theorem st_17t : ∀ c ∈ (Str.ofString "0123456789-/ \nstp").cps.toList, c < 1114112 := by decide +kernel
theorem eqv_self' {x : PyData} (h : SeqAt.shaped x = true) : PyData.eqv x x = true := SeqAt.eqv_refl x (SeqAt.canLay_of_shaped h)

section
variable {P : Program} {w : World} {K : PySem.W.Frag} {mg : Str → Option Value} {base : Heap}
theorem fok_fraction (Tp : Top K mg base) : FnOk P w K mg base (L2.CX P w) 1 Tp.f_fraction Tp.d_fraction ["numerator", "denominator"] (spX K (RFrac Tp.c_ZeroDenominator)) := by
  refine Tp.F_fraction.okX sc_fraction (fun vs H Q E h => len_X (fun _ _ ⟨_, _, e, _⟩ => by rw [e]; rfl) h) (fun cdv A outer s H vs Q E hr h => ?_)
  refine ⟨_, (pss_cons (ps_if (pt_cmpR op_eq (pv 1) pe_int (nomark _)) (pss_one (ps_raise rfl (takes_of rfl rfl rfl rfl) (pmk_own PySem.F.excBase_ValueError Tp.xc_ZeroDenominator Tp.gc_ZeroDenominator Tp.kc_ZeroDenominator (raises_own Tp.bc_ZeroDenominator Tp.tc_ZeroDenominator) rfl))) pss_nil)
      (pss_cons (ps_set (i := 2) sc_fraction.nd rfl (.inl rfl) (pe_callBfun cr_gcd (by rfl) Tp.n_gcd (pa_cons (pv 0) (pa_cons (pv 1) pa_nil))))
      (pss_cons (ps_if (pt_cmpR op_lt (pv 1) pe_int (nomark _)) (pss_one (ps_set (i := 2) sc_fraction.nd rfl (.inl rfl) (pe_un un_neg (pv 2)))) pss_nil)
      (pss_one (ps_ret (pe_tup (pa_cons (pe_op op_fdivZ (pv 0) (pv 2)) (pa_cons (pe_op op_fdivZ (pv 1) (pv 2)) pa_nil)))))))), body_X ?_ h⟩
  refine fun ds r hr I hx => ?_
  obtain ⟨n, m, rfl, zn, zm, hr⟩ := hr
  walk_at "norm"
  rcases hr with ⟨h0, rfl⟩ | ⟨h0, rfl⟩
  · refine q_skip (p_test (p_eqI (i := m) (j := 0) (by walk_at "ev") (by walk_at "ev"))) (decide_eq_false h0) ?_
    have g0 : Int.gcd n m ≠ 0 := Int.gcd_ne_zero_right h0
    have hg : (0 : Int) < (Int.gcd n m : Nat) := by omega
    have zg : ((Int.gcd n m : Nat) : Int).natAbs < 2 ^ 8500 := sz_gcd zm h0
    refine q_asg (d := .i (Int.gcd n m : Nat)) (by walk_at "ev") ?_
    by_cases c : m < 0
    · have e : lf n m = (n.fdiv (-(Int.gcd n m : Nat)), m.fdiv (-(Int.gcd n m : Nat))) := by
        unfold lf
        rw [if_pos c, fdivZ hg (Int.gcd_dvd_left n m), fdivZ hg (Int.gcd_dvd_right n m)]
        unfold nf
        rw [Int.zero_sub, Int.zero_sub, Int.gcd_neg, Int.neg_gcd]
      refine s_seq (q_ifT (p_test (p_lt (i := m) (j := 0) (by walk_at "ev") (by walk_at "ev"))) (decide_eq_true c) (p_asg (d := .i (-(Int.gcd n m : Nat))) (by walk_at "ev"))) ?_
      refine p_ret (p_frac (x := n.fdiv (-(Int.gcd n m : Nat))) (y := m.fdiv (-(Int.gcd n m : Nat))) (p_cons (p_divZ (e_var rfl) (e_var rfl) (divZ (by omega) (sz_neg zg) (by decide))) (p_cons (p_divZ (e_var rfl) (e_var rfl) (divZ (by omega) (sz_neg zg) (by decide))) a_nil)) e)
    · have e : lf n m = (n.fdiv (Int.gcd n m : Nat), m.fdiv (Int.gcd n m : Nat)) := by
        unfold lf
        rw [if_neg c, Int.fdiv_eq_ediv_of_nonneg n (by omega), Int.fdiv_eq_ediv_of_nonneg m (by omega)]
        rfl
      refine q_skip (p_test (p_lt (i := m) (j := 0) (by walk_at "ev") (by walk_at "ev"))) (decide_eq_false c) ?_
      refine p_ret (p_frac (x := n.fdiv (Int.gcd n m : Nat)) (y := m.fdiv (Int.gcd n m : Nat)) (p_cons (p_divZ (e_var rfl) (e_var rfl) (divZ (by omega) zg (by decide))) (p_cons (p_divZ (e_var rfl) (e_var rfl) (divZ (by omega) zg (by decide))) a_nil)) e)
  · exact s_err (q_ifT (p_test (p_eqI (i := m) (j := 0) (by walk_at "ev") (by walk_at "ev"))) (decide_eq_true h0) (s_raise' fun G H σ D gh io => hx _ rfl G H io))
theorem fok_decimal (Tp : Top K mg base) : FnOk P w K mg base CX0 1 Tp.f_decimal Tp.d_decimal ["number"] (spP K RDec) := by
  refine Tp.F_decimal.ok sc_decimal (fun vs H Q E h => len_P (fun _ _ ⟨_, e, _⟩ => by rw [e]; rfl) h) (fun cdv A outer s H vs Q E hr h => ?_)
  refine ⟨_, (pss_cons (ps_set (i := 1) sc_decimal.nd rfl (.inl rfl) (pe_op op_pow pe_int pe_int))
      (pss_cons (ps_set (i := 2) sc_decimal.nd rfl (.inl rfl) (pe_lst pa_nil))
      (pss_cons (ps_while PassesOwn.never (pt_cmpR op_ge (pv 0) (pv 1) (nomark _)) (pss_cons (ps_asg (pe_callB call_divmodW (by rfl) Tp.n_divmod (by decide +kernel) (pa_cons (pv 0) (pa_cons (pv 1) pa_nil))) (pg_tup rfl (pgs_cons (pg_name (i := 0) sc_decimal.nd rfl (.inl rfl)) (pgs_cons (pg_name (i := 3) sc_decimal.nd rfl (.inl rfl)) pgs_nil))))
      (pss_one (ps_expr (pe_bm PySem.F.plainAttrs_list PySem.F.slot_list_append PySem.F.type_list_append mt_append (pv 2) (pa_cons (pe_m1 PySem.F.slot_str_zfill PySem.F.type_str_zfill mt_zfill (pe_callTy call_str_int (by rfl) Tp.n_str (by decide +kernel) (pa_cons (pv 3) pa_nil)) pe_int) pa_nil))))))
      (pss_cons (ps_expr (pe_bm PySem.F.plainAttrs_list PySem.F.slot_list_append PySem.F.type_list_append mt_append (pv 2) (pa_cons (pe_callTy call_str_int (by rfl) Tp.n_str (by decide +kernel) (pa_cons (pv 0) pa_nil)) pa_nil)))
      (pss_one (ps_ret (pe_joinRev (by rfl) pe_str (by rfl) Tp.n_reversed (pa_cons (pv 2) pa_nil)))))))), body_P ?_ h⟩
  refine fun ds d r I => ?_
  obtain ⟨n, rfl, hn, rfl⟩ := r
  walk_at "norm"
  obtain ⟨U, hU⟩ : ∃ U : Nat, U = 10 ^ 64 := ⟨_, rfl⟩
  have hUi : ((10 : Int) ^ 64) = ((U : Nat) : Int) := by rw [hU]; decide +kernel
  have uc : ∀ i : Int, CDivP i ((U : Nat) : Int) := fun i => by rw [← hUi]; exact cdiv i
  have up : 0 < U := by rw [hU]; exact Nat.pow_pos (by decide)
  refine q_asg (d := .i ((U : Nat) : Int)) (e_is (p_pow (i := 10) (j := 64) e_int e_int ⟨by decide, by decide, by decide⟩) (by rw [show ((10 : Int) ^ (64 : Int).toNat) = ((U : Nat) : Int) from hUi])) ?_
  refine s_newL fun q hq => ?_
  have h00 : DcI n (n, []) := ⟨by simp, Nat.le_refl _, fun c hc => by cases hc⟩
  obtain ⟨E, eE⟩ : ∃ E, E = lpD n [] := ⟨_, rfl⟩
  have hE := lpD_ok (n := n) n (n, []) (Nat.le_refl _) h00
  replace hE : DcI n (lpD n []) ∧ (lpD n []).1 < 10 ^ 64 := hE
  rw [← eE, ← hU] at hE
  refine s_seq (ρ1 := [some (.i ((E.1 : Nat))), some (.i (U : Int)), some (.r q), none]) (J := lJ K q ((E.2).map fun c => PyData.str (sx c)) I) (s_while (α := Nat × List (List Nat)) (fun s => DcI n s ∧ lpD s.1 s.2 = E) (fun s => [some (.i ((s.1 : Nat))), some (.i (U : Int)), some (.r q), none]) (fun s => lJ K q ((s.2).map fun c => PyData.str (sx c)) I) (fun s => s.1) (n, []) ⟨h00, eE.symm⟩ fun s iv => ?_) ?_
  · obtain ⟨h1, h2⟩ := iv
    by_cases c : U ≤ s.1
    rotate_left
    · have e : E = s := by rw [← h2, lpD_end (by rw [← hU]; exact c)]
      rw [e]
      exact .inr ⟨t_is (p_test (p_ge (i := ((s.1 : Nat) : Int)) (j := ((U : Nat) : Int)) (e_var rfl) (e_var rfl))) (decide_eq_false (by omega)), rfl⟩
    have c2 : 10 ^ 64 ≤ s.1 := by rw [← hU]; exact c
    have lt : s.1 / 10 ^ 64 < s.1 := Nat.div_lt_self (Nat.lt_of_lt_of_le (Nat.pow_pos (by decide)) c2) (by decide)
    have hstep := h1.step c2
    have hfew := hstep.few hn
    have hlow : s.1 % 10 ^ 64 < 10 ^ 64 := Nat.mod_lt _ (Nat.pow_pos (by decide))
    refine .inl ⟨t_is (p_test (p_ge (i := ((s.1 : Nat) : Int)) (j := ((U : Nat) : Int)) (e_var rfl) (e_var rfl))) (decide_eq_true (by omega)), .inl ⟨(s.1 / 10 ^ 64, s.2 ++ [chunk (s.1 % 10 ^ 64)]), ⟨hstep, by rw [← h2, lpD_go c2]⟩, lt, ?_⟩⟩
    rw [← hU] at hlow ⊢
    rw [List.length_append] at hfew
    show S K _ _ _ (.nx _ (lJ K q ((s.2 ++ [chunk (s.1 % U)]).map fun c => PyData.str (sx c)) I))
    rw [List.map_append]
    refine s_lessN (ρ' := [some (.i (((s.1 / U : Nat) : Int))), some (.i (U : Int)), some (.r q), some (.i ((s.1 % U : Nat) : Int))]) ⟨.inr rfl, .inr rfl, .inr rfl, .inl rfl, trivial⟩ ?_
    refine s_seq (s_asgG (x := .tuple [.int ((s.1 / U : Nat) : Int), .int ((s.1 % U : Nat) : Int)]) (e_is (e_divmod (i := ((s.1 : Nat) : Int)) (j := ((U : Nat) : Int)) (p_cons (e_var rfl) (p_cons (e_var rfl) a_nil)) (uc _)) (by rw [Int.natCast_ediv, Int.natCast_emod])) (g_tup rfl (g_cons g_name (g_cons g_name g_nil)))) ?_
    exact s_app (x := .str (sx (chunk (s.1 % U)))) (e_is (e_zfill (i := 64) (e_strI (i := ((s.1 % U : Nat) : Int)) (p_cons (e_var rfl) a_nil) (few_bits (k := 64) (by rw [← hU]; exact hlow) (by decide))) e_int (by decide)) (by rw [sx_nat, show ((64 : Int)) = ((64 : Nat) : Int) from rfl, zf (dg_all _)]; rfl)) rfl (by rw [List.length_map]; omega) hq
  obtain ⟨h1, h2⟩ := hE
  have hfew := h1.few hn
  refine s_seq (s_app (x := .str (sx (dg E.1))) (e_is (e_strI (i := ((E.1 : Nat) : Int)) (p_cons (e_var rfl) a_nil) (few_bits (k := 64) (by rw [← hU]; exact h2) (by decide))) (by rw [sx_nat])) rfl (by rw [List.length_map]; omega) hq) ?_
  have hds : (E.2.map fun c => PyData.str (sx c)) ++ [.str (sx (dg E.1))] = ((E.2 ++ [dg E.1]).map sx).map PyData.str := by simp
  rw [hds]
  refine s_freeze (i := 2) rfl hq (p_ret (e_is (e_joinR (a := Str.ofString "") e_str (p_cons (e_var rfl) a_nil) ?_) ?_))
  · have e1 : (Str.ofString "").length = 0 := rfl
    rw [e1, Nat.mul_zero, Nat.add_zero, List.map_map]
    have dl := dg_len (n := E.1) (k := 64) (by rw [← hU]; exact h2) (by decide)
    have e2 : ((E.2 ++ [dg E.1]).map ((fun z : Str => z.length) ∘ sx)).sum ≤ 64 * E.2.length + 64 := by
      have e3 : ∀ cs : List (List Nat), (∀ c ∈ cs, c.length = 64) → (cs.map ((fun z : Str => z.length) ∘ sx)).sum = 64 * cs.length := fun cs => by
        induction cs with
        | nil => intro _; rfl
        | cons c cs ih =>
          intro h
          rw [List.map_cons, List.sum_cons, ih fun d hd => h d (List.mem_cons_of_mem _ hd), List.length_cons]
          have : ((fun z : Str => z.length) ∘ sx) c = 64 := by
            show (sx c).length = 64
            rw [sx_len]
            exact h c List.mem_cons_self
          omega
      rw [List.map_append, List.sum_append, e3 _ h1.l]
      show _ + ((sx (dg E.1)).length + 0) ≤ _
      rw [sx_len]
      omega
    omega
  · rw [← List.map_reverse, jn, List.reverse_append]
    show Dat.d (.str (sx ([dg E.1] ++ E.2.reverse).flatten)) = _
    rw [List.flatten_append]
    show Dat.d (.str (sx (([dg E.1] : List (List Nat)).flatten ++ E.2.reverse.flatten))) = _
    rw [show ([dg E.1] : List (List Nat)).flatten = dg E.1 by simp, h1.e]
theorem fok_lines_of (Tp : Top K mg base) : FnOk P w K mg base (L2.CX P w) 1 Tp.f_lines_of Tp.d_lines_of ["text"] (spX K (RLo Tp.c_TextError)) := by
  refine Tp.F_lines_of.okX sc_lines_of (fun vs H Q E h => len_X (fun _ _ ⟨_, e, _⟩ => by rw [e]; rfl) h) (fun cdv A outer s H vs Q E hr h => ?_)
  refine ⟨_, (pss_cons (ps_if (pt_cmpR (op_eqD hr.units) (pv 0) pe_str (nomark _)) (pss_one (ps_ret (pe_lst pa_nil))) pss_nil)
      (pss_cons (ps_if (pt_not (pt_val (pe_m1 PySem.F.slot_str_endswith PySem.F.type_str_endswith mt_endswith (pv 0) pe_str))) (pss_one (ps_raise rfl (takes_of rfl rfl rfl rfl) (pmk_own PySem.F.excBase_ValueError Tp.xc_TextError Tp.gc_TextError Tp.kc_TextError (raises_own Tp.bc_TextError Tp.tc_TextError) rfl))) pss_nil)
      (pss_one (ps_ret (pe_split (pe_m1 PySem.F.slot_str_removesuffix PySem.F.type_str_removesuffix mt_removesuffix (pv 0) pe_str) pe_str))))), body_X ?_ h⟩
  refine fun ds r hr I hx => ?_
  obtain ⟨l, rfl, ht, hl, hr⟩ := hr
  walk_at "norm"
  have EQ : ∀ {ρ : Rho} {ta : TE} {m k : List Nat} {z : Str}, z = sx k → Tx m → Tx k → PL.E K ta ρ I (.d (.str (sx m))) I → PL.T K (tTest (tOp (rEqD K) ta (tC (.str z)))) ρ I (decide (m = k)) I := fun hz hm hk e => by
    subst hz
    exact t_is (p_test (p_eqD (x := .str (sx _)) (y := .str (sx _)) e e_str (sh_str hm) (sh_str hk))) (eqv_s _ _)
  have t0 : Tx [] := fun c hc => by cases hc
  have t48 : Tx [48] := fun c hc => by rw [List.mem_singleton.mp hc]; decide
  
  rcases hr with ⟨rfl, rfl⟩ | ⟨h0, h1, rfl⟩ | ⟨h1, rfl⟩
  · exact s_stop (q_ifT (EQ st_nil t0 t0 (e_var rfl)) rfl (p_ret (e_lstL a_nil .nil (show 0 ≤ 100000 by decide))))
  · refine q_skip (EQ st_nil ht t0 (e_var rfl)) (decide_eq_false h0) ?_
    exact s_any (q_ifT (t_not (t_B (e_ends (l := l) (c := 10) (e_var rfl) e_str st_lf))) (by rw [decide_eq_false h1]; rfl) (s_raise' fun G H σ D gh io => hx _ rfl G H io))
  have h0 : l ≠ [] := fun z => by rw [z] at h1; cases h1
  refine q_skip (EQ st_nil ht t0 (e_var rfl)) (decide_eq_false h0) ?_
  refine q_skip (t_not (t_B (e_ends (l := l) (c := 10) (e_var rfl) e_str st_lf))) (by rw [decide_eq_true h1]; rfl) ?_
  exact p_ret (e_is (e_splitS (a := sx l.dropLast) (e_is (e_remsuf (l := l) (c := 10) (e_var rfl) e_str st_lf (by omega)) (by rw [if_pos h1])) e_str (by rfl) (by rw [sx_len, List.length_dropLast]; omega)) (by rw [st_lf, splitC_list, List.map_map]; rfl))
theorem fok_words_behind (Tp : Top K mg base) : FnOk P w K mg base (L2.CX P w) 1 Tp.f_words_behind Tp.d_words_behind ["first", "line", "count"] (spX K (RWb Tp.c_TextError)) := by
  refine Tp.F_words_behind.okX sc_words_behind (fun vs H Q E h => len_X (fun _ _ ⟨_, _, _, e, _⟩ => by rw [e]; rfl) h) (fun cdv A outer s H vs Q E hr h => ?_)
  refine ⟨_, (pss_cons (ps_set (i := 3) sc_words_behind.nd rfl (.inl rfl) (pe_split (pv 1) pe_str))
      (pss_cons (ps_if (PW.pt (pw_or (pt_cmpR (op_neD hr.units) (pe_ix (r := rIxL K) ix_list (pv 3) pe_int (fun _ _ => rfl)) (pv 0) (nomark _)) (pw_or1 (pt_cmpR op_ne (pe_callB call_len_seq (by rfl) Tp.n_len (by decide +kernel) (pa_cons (pv 3) pa_nil)) (pe_op op_add (pv 2) pe_int) (nomark _))))) (pss_one (ps_raise rfl (takes_of rfl rfl rfl rfl) (pmk_own PySem.F.excBase_ValueError Tp.xc_TextError Tp.gc_TextError Tp.kc_TextError (raises_own Tp.bc_TextError Tp.tc_TextError) rfl))) pss_nil)
      (pss_one (ps_ret (pe_slice (r := rSlL K) sl_list (pv 3) (po_some pe_int) po_none))))), body_X ?_ h⟩
  refine fun ds r hr I hx => ?_
  obtain ⟨f, l, n, rfl, tf, tl, hl, hn, hr⟩ := hr
  walk_at "norm"
  have hlen := splC_len 32 l
  obtain ⟨P0, ps, eS⟩ : ∃ P0 ps, splC 32 l = P0 :: ps := by
    cases e : splC 32 l with
    | nil => have := splC_pos 32 l; rw [e] at this; cases this
    | cons q qs => exact ⟨q, qs, rfl⟩
  have tP : Tx P0 := splC_tx 32 tl P0 (by rw [eS]; exact List.mem_cons_self)
  have g0 : (strL (splC 32 l))[0]? = some (.str (sx P0)) := by rw [eS]; rfl
  have eh : (splC 32 l).head? = some P0 := by rw [eS]; rfl
  refine q_asg (d := .l (strL (splC 32 l))) (e_is (e_splitS (e_var rfl) e_str (by rfl) (by rw [sx_len]; omega)) (by rw [st_sp1, splitC_list, List.map_map]; rfl)) ?_
  rcases hr with ⟨hb, rfl⟩ | ⟨h1, h2, rfl⟩
  · refine s_any (q_ifT (t_or (t_is (p_test (p_neD (x := .str (sx P0)) (y := .str (sx f)) (e_ixL (j := 0) (x := .str (sx P0)) (e_l2d (e_var rfl)) e_int g0) (e_var rfl) (sh_str tP) (sh_str tf))) (by rw [eqv_s])) fun _ => p_test (p_neI (i := (((strL (splC 32 l)).length : Nat) : Int)) (j := ((n : Nat) : Int) + 1) (p_len (ds := strL (splC 32 l)) (p_cons (e_l2d (e_var rfl)) a_nil)) (p_add (e_var rfl) e_int))) ?_ (s_raise' fun G H σ D gh io => hx _ rfl G H io))
    rw [Bool.or_eq_true, Bool.not_eq_true', decide_eq_false_iff_not, Bool.not_eq_true', decide_eq_false_iff_not, List.length_map]
    rcases hb with hb | hb
    · exact .inl fun z => hb (by rw [eh, z])
    · exact .inr fun z => hb (by omega)
  refine q_skip (t_or (t_is (p_test (p_neD (x := .str (sx P0)) (y := .str (sx f)) (e_ixL (j := 0) (x := .str (sx P0)) (e_l2d (e_var rfl)) e_int g0) (e_var rfl) (sh_str tP) (sh_str tf))) (by rw [eqv_s])) fun _ => p_test (p_neI (i := (((strL (splC 32 l)).length : Nat) : Int)) (j := ((n : Nat) : Int) + 1) (p_len (ds := strL (splC 32 l)) (p_cons (e_l2d (e_var rfl)) a_nil)) (p_add (e_var rfl) e_int))) ?_ ?_
  · rw [Bool.or_eq_false_iff, Bool.not_eq_false', decide_eq_true_iff, Bool.not_eq_false', decide_eq_true_iff, List.length_map]
    rw [eh] at h1
    exact ⟨Option.some.inj h1, by omega⟩
  exact p_ret (e_is (e_sliceFrom (j := 1) (ds := strL (splC 32 l)) (e_l2d (e_var rfl)) (e_is e_int rfl)) (by rw [← List.map_drop, List.drop_one]))
theorem fok_write_name (Tp : Top K mg base) : FnOk P w K mg base CX0 1 Tp.f_write_name Tp.d_write_name ["name"] (spP K RWn) := by
  refine Tp.F_write_name.ok sc_write_name (fun vs H Q E h => len_P (fun _ _ ⟨_, e, _⟩ => by rw [e]; rfl) h) (fun cdv A outer s H vs Q E hr h => ?_)
  refine ⟨_, (pss_cons (ps_asg (pv 0) (pg_tup rfl (pgs_cons (pg_name (i := 1) sc_write_name.nd rfl (.inl rfl)) (pgs_cons (pg_name (i := 2) sc_write_name.nd rfl (.inl rfl)) (pgs_cons (pg_name (i := 3) sc_write_name.nd rfl (.inl rfl)) (pgs_cons (pg_name (i := 4) sc_write_name.nd rfl (.inl rfl)) pgs_nil))))))
      (pss_one (ps_ret (pe_joined (.cons (pe_fmt (pv 1)) (.cons pe_str (.cons (pe_fmt (pv 2)) (.cons pe_str (.cons (pe_fmt (pv 3)) (.cons pe_str (.cons (pe_fmt (pv 4)) .nil))))))))))), body_P ?_ h⟩
  refine fun ds d r I => ?_
  obtain ⟨⟨k, a, b, s⟩, rfl, lk, ha, hb, hs, rfl⟩ := r
  walk_at "norm"
  replace lk : k.length ≤ 1000 := lk
  replace ha : a < 10 ^ 10 := ha
  replace hb : b < 10 ^ 10 := hb
  replace hs : s < 10 ^ 10 := hs
  have l1 := dg_len ha (by decide)
  have l2 := dg_len hb (by decide)
  have l3 := dg_len hs (by decide)
  refine s_seq (s_asgG (e_var rfl) (g_tup rfl (g_cons g_name (g_cons g_name (g_cons g_name (g_cons g_name g_nil)))))) ?_
  exact p_ret (e_is (e_fj (xs := [k, [32], dg a, [32], dg b, [32], dg s]) ⟨e_fmtS (e_var rfl) (by omega), e_is e_str (by rw [st_sp1]), e_is (e_fmtI (i := ((a : Nat) : Int)) (e_var rfl) (few_bits (k := 10) (by omega) (by decide))) (by rw [sx_nat]), e_is e_str (by rw [st_sp1]), e_is (e_fmtI (i := ((b : Nat) : Int)) (e_var rfl) (few_bits (k := 10) (by omega) (by decide))) (by rw [sx_nat]), e_is e_str (by rw [st_sp1]), e_is (e_fmtI (i := ((s : Nat) : Int)) (e_var rfl) (few_bits (k := 10) (by omega) (by decide))) (by rw [sx_nat]), trivial⟩ (by simp; omega)) (by unfold nmT; simp))
theorem fok_law_begin (Tp : Top K mg base) : FnOk P w K mg base CX0 1 Tp.f_law_begin Tp.d_law_begin ["script"] (spBegin K) := by
  refine Tp.F_law_begin.ok sc_law_begin (fun vs H Q E h => by obtain ⟨_, _, _, e, _⟩ := h; rw [e]; rfl) (fun cdv A outer s H vs Q E hr h => ?_)
  refine ⟨_, (pss_cons (ps_set (i := 1) sc_law_begin.nd rfl (.inl rfl) pe_int)
      (pss_cons (ps_for PassesOwn.never rfl (pi_list (pv 0)) (pg_name (i := 2) sc_law_begin.nd rfl (.inl rfl)) (pss_one (ps_set (i := 1) sc_law_begin.nd rfl (.inl rfl) (pe_op op_mod (pe_op op_add (pe_op op_add (pe_op op_mulW (pv 1) pe_int) (pe_op op_mod (pe_callTy call_int1 (by rfl) Tp.n_int (by decide +kernel) (pa_cons (pv 2) pa_nil)) pe_int)) pe_int) pe_int))))
      (pss_one (ps_ret (pe_lst (pa_cons (pe_callTy call_list_of (by rfl) Tp.n_list (by decide +kernel) (pa_cons (pv 0) pa_nil)) (pa_cons pe_int (pa_cons pe_int (pa_cons (pv 1) pa_nil))))))))), body_beg ?_ h⟩
  refine fun ns G0 H0 => ?_
  walk_at "norm"
  refine q_asg (d := .i 1) (by walk_at "ev") ?_
  refine s_seq (ρ1 := [some (.d (.list (ns.map PyData.int))), some (.i (seedAt ns ns.length)), none]) (J := .since NoA G0 H0) ?_ ?_
  · have z := s_forL (K := K) (ts := ?_) (tl := tVar 0) (I := .since NoA G0 H0) (ds := ns.map PyData.int) (j := 2) (fun i => [some (.d (.list (ns.map PyData.int))), some (.i (seedAt ns i)), none]) (fun _ => .since NoA G0 H0) (e_var rfl) rfl ?_
    · rw [List.length_map] at z
      exact z
    · intro i x hx
      rw [List.getElem?_map, Option.map_eq_some_iff] at hx
      obtain ⟨n, hn, rfl⟩ := hx
      have b := seed_ok ns i
      refine s_lessN (ρ' := [some (.d (.list (ns.map PyData.int))), some (.i (seedAt ns (i + 1))), some (.i n)]) ⟨.inr rfl, .inr rfl, .inl rfl, trivial⟩ ?_
      have e : seedAt ns (i + 1) = (seedAt ns i * 69621 + n % 2147483629 + 7) % 2147483647 := by
        show seedF (seedAt ns i) (ns.getD i 0) = _
        rw [List.getD_eq_getElem?_getD, hn]
        rfl
      rw [e]
      refine p_asg (d := .i ((seedAt ns i * 69621 + n % 2147483629 + 7) % 2147483647)) ?_
      walk_at "ev"
      · exact mulW (m := 32) (n := 32) (by omega) (by decide) (by decide)
      · decide
      · decide
  · exact s_retBeg (seed_ok ns _) (by walk_at "ev")
theorem fok_law_take (Tp : Top K mg base) : FnOk P w K mg base CX0 1 Tp.f_law_take Tp.d_law_take ["d", "many"] (spW K RTake) := by
  refine Tp.F_law_take.ok sc_law_take (fun vs H Q E h => len_W (fun _ _ _ _ ⟨_, e, _⟩ => by rw [e]; rfl) h) (fun cdv A outer s H vs Q E hr h => ?_)
  refine ⟨_, (pss_cons (ps_if (PW.pt (pw_and (pt_cmpR op_eq (pe_ix (r := rIxL K) ix_list (pv 0) pe_int (fun _ _ => rfl)) pe_int (nomark _)) (pw_and1 (pt_cmpR op_lt (pe_ix (r := rIxL K) ix_list (pv 0) pe_int (fun _ _ => rfl)) (pe_callB call_len_seq (by rfl) Tp.n_len (by decide +kernel) (pa_cons (pe_ix (r := rIxL K) ix_list (pv 0) pe_int (fun _ _ => rfl)) pa_nil)) (nomark _))))) (pss_cons (ps_asg (pe_callB call_abs (by rfl) Tp.n_abs (by decide +kernel) (pa_cons (pe_callTy call_int1 (by rfl) Tp.n_int (by decide +kernel) (pa_cons (pe_ix (r := rIxL K) ix_list (pe_ix (r := rIxL K) ix_list (pv 0) pe_int (fun _ _ => rfl)) (pe_ix (r := rIxL K) ix_list (pv 0) pe_int (fun _ _ => rfl)) (fun _ _ => rfl)) pa_nil)) pa_nil)) (pg_sub (pv 0) pe_int set_list))
      (pss_cons (ps_asg (pe_op op_add (pe_ix (r := rIxL K) ix_list (pv 0) pe_int (fun _ _ => rfl)) pe_int) (pg_sub (pv 0) pe_int set_list))
      (pss_one (ps_if (pt_cmpR op_lt (pe_ix (r := rIxL K) ix_list (pv 0) pe_int (fun _ _ => rfl)) (pe_op op_pow pe_int pe_int) (nomark _)) (pss_cons (ps_set (i := 2) sc_law_take.nd rfl (.inl rfl) (pe_callTy call_int1 (by rfl) Tp.n_int (by decide +kernel) (pa_cons (pe_ix (r := rIxL K) ix_list (pv 0) pe_int (fun _ _ => rfl)) pa_nil)))
      (pss_cons (ps_asg pe_int (pg_sub (pv 0) pe_int set_list))
      (pss_one (ps_ret (pe_op op_mod (pv 2) (pv 1)))))) pss_nil)))) pss_nil)
      (pss_cons (ps_if (pt_cmpR op_gt (pe_ix (r := rIxL K) ix_list (pv 0) pe_int (fun _ _ => rfl)) pe_int (nomark _)) (pss_cons (ps_set (i := 3) sc_law_take.nd rfl (.inl rfl) (pe_op op_mod (pe_callTy call_int1 (by rfl) Tp.n_int (by decide +kernel) (pa_cons (pe_ix (r := rIxL K) ix_list (pv 0) pe_int (fun _ _ => rfl)) pa_nil)) (pv 1)))
      (pss_cons (ps_asg (pe_op op_fdivW (pe_callTy call_int1 (by rfl) Tp.n_int (by decide +kernel) (pa_cons (pe_ix (r := rIxL K) ix_list (pv 0) pe_int (fun _ _ => rfl)) pa_nil)) (pv 1)) (pg_sub (pv 0) pe_int set_list))
      (pss_one (ps_ret (pv 3))))) pss_nil)
      (pss_cons (ps_asg (pe_op op_mod (pe_callTy call_int1 (by rfl) Tp.n_int (by decide +kernel) (pa_cons (pe_op op_add (pe_op op_mulW (pe_ix (r := rIxL K) ix_list (pv 0) pe_int (fun _ _ => rfl)) pe_int) pe_int) pa_nil)) pe_int) (pg_sub (pv 0) pe_int set_list))
      (pss_one (ps_ret (pe_op op_mod (pe_callTy call_int1 (by rfl) Tp.n_int (by decide +kernel) (pa_cons (pe_op op_fdivW (pe_ix (r := rIxL K) ix_list (pv 0) pe_int (fun _ _ => rfl)) pe_int) pa_nil)) (pv 1))))))), body_W ?_ h⟩
  refine fun ds C d C' r p J hf => ?_
  obtain ⟨m, rfl, ok, hm, hz, rfl, rfl⟩ := r
  walk_at "norm"
  have dm : ∀ i : Int, CDivW i m := fun i => divW hm hz (by decide)
  by_cases c1 : C.rest = 0 ∧ C.pos < C.ns.length
  · have e1 : (C.ns.map PyData.int)[C.pos]? = some (.int (C.ns.getD C.pos 0)) := by
      rw [List.getElem?_map, List.getElem?_eq_getElem c1.2, List.getD_eq_getElem?_getD, List.getElem?_eq_getElem c1.2]
      rfl
    generalize hx : ((C.ns.getD C.pos 0).natAbs : Int) = x
    have hx0 : 0 ≤ x := by omega
    by_cases c2 : x < 10 ^ 18
    · have e : take C m = (x % m, { C with pos := C.pos + 1, rest := 0 }) := by
        unfold take
        rw [if_pos c1, hx, if_pos c2]
      rw [e]
      refine s_stop (s_ifT (t_andT (t_is (p_test (p_eqI (i := C.rest) (j := 0) (d_ix2 (e_var rfl)) e_int)) (decide_eq_true c1.1)) (t_is (p_test (p_lt (i := (C.pos : Nat)) (j := ((C.ns.map PyData.int).length : Nat)) (d_ix1 (e_var rfl)) (p_len (p_cons (d_ix0 (e_var rfl)) a_nil)))) (decide_eq_true (by rw [List.length_map]; omega)))) ?_)
      refine s_seq (d_set2 (x := x) (e_is (p_abs (i := C.ns.getD C.pos 0) (p_cons (p_int1 (p_cons (e_ixL (j := C.pos) (d_ix0 (e_var rfl)) (d_ix1 (e_var rfl)) e1) a_nil)) a_nil)) (by rw [hx])) (e_var rfl) hf) ?_
      refine s_seq (d_set1 (n := C.pos + 1) (x := (C.pos : Int) + 1) (by walk_at "ev") rfl (e_var rfl) hf) ?_
      refine q_ifT (p_test (p_lt (i := x) (j := 10 ^ (18 : Int).toNat) (d_ix2 (e_var rfl)) (p_pow e_int e_int ⟨by decide, by decide, by decide⟩))) (decide_eq_true c2) ?_
      refine q_asg (d := .i x) (p_int1 (p_cons (d_ix2 (e_var rfl)) a_nil)) ?_
      refine s_seq (d_set2 (x := 0) e_int (e_var rfl) hf) ?_
      refine p_ret ?_
      walk_at "ev"
      exact hm
    · have e : take C m = take1 { C with pos := C.pos + 1, rest := x } m := by
        unfold take
        rw [if_pos c1, hx, if_neg c2]
      rw [e]
      have xp : 0 < x := by
        have : (0 : Int) < 10 ^ 18 := by decide
        omega
      refine s_seq (ρ1 := [some (.r p), some (.i m), none, none]) (J := dJ K p { C with pos := C.pos + 1, rest := x } J) (s_ifT (t_andT (t_is (p_test (p_eqI (i := C.rest) (j := 0) (d_ix2 (e_var rfl)) e_int)) (decide_eq_true c1.1)) (t_is (p_test (p_lt (i := (C.pos : Nat)) (j := ((C.ns.map PyData.int).length : Nat)) (d_ix1 (e_var rfl)) (p_len (p_cons (d_ix0 (e_var rfl)) a_nil)))) (decide_eq_true (by rw [List.length_map]; omega)))) ?_) ?_
      · refine s_seq (d_set2 (x := x) (e_is (p_abs (i := C.ns.getD C.pos 0) (p_cons (p_int1 (p_cons (e_ixL (j := C.pos) (d_ix0 (e_var rfl)) (d_ix1 (e_var rfl)) e1) a_nil)) a_nil)) (by rw [hx])) (e_var rfl) hf) ?_
        refine s_seq (d_set1 (n := C.pos + 1) (x := (C.pos : Int) + 1) (by walk_at "ev") rfl (e_var rfl) hf) ?_
        exact q_ifF (p_test (p_lt (i := x) (j := 10 ^ (18 : Int).toNat) (d_ix2 (e_var rfl)) (p_pow e_int e_int ⟨by decide, by decide, by decide⟩))) (decide_eq_false c2) s_next
      · have e2 : take1 { C with pos := C.pos + 1, rest := x } m = (x % m, { C with pos := C.pos + 1, rest := x / m }) := by
          unfold take1
          exact if_pos xp
        rw [e2]
        refine s_stop (q_ifT (p_test (p_gt (i := x) (j := 0) (d_ix2 (e_var rfl)) e_int)) (decide_eq_true xp) ?_)
        refine q_asg (d := .i (x % m)) (p_mod (p_int1 (p_cons (d_ix2 (e_var rfl)) a_nil)) (e_var rfl) hm) ?_
        refine s_seq (d_set2 (x := x / m) (p_div (p_int1 (p_cons (d_ix2 (e_var rfl)) a_nil)) (e_var rfl) (dm x)) (e_var rfl) hf) ?_
        exact p_ret (e_var rfl)
  · have e : take C m = take1 C m := by
      unfold take
      rw [if_neg c1]
    rw [e]
    refine s_seq (ρ1 := [some (.r p), some (.i m), none, none]) (J := dJ K p C J) (s_ifF (J := dJ K p C J) ?_ s_next) ?_
    · by_cases c3 : C.rest = 0
      · exact t_andT (t_is (p_test (p_eqI (i := C.rest) (j := 0) (d_ix2 (e_var rfl)) e_int)) (decide_eq_true c3)) (t_is (p_test (p_lt (i := (C.pos : Nat)) (j := ((C.ns.map PyData.int).length : Nat)) (d_ix1 (e_var rfl)) (p_len (p_cons (d_ix0 (e_var rfl)) a_nil)))) (decide_eq_false (by rw [List.length_map]; omega)))
      · exact t_andF (t_is (p_test (p_eqI (i := C.rest) (j := 0) (d_ix2 (e_var rfl)) e_int)) (decide_eq_false c3))
    by_cases c4 : 0 < C.rest
    · have e2 : take1 C m = (C.rest % m, { C with rest := C.rest / m }) := by
        unfold take1
        exact if_pos c4
      rw [e2]
      refine s_stop (q_ifT (p_test (p_gt (i := C.rest) (j := 0) (d_ix2 (e_var rfl)) e_int)) (decide_eq_true c4) ?_)
      refine q_asg (d := .i (C.rest % m)) (p_mod (p_int1 (p_cons (d_ix2 (e_var rfl)) a_nil)) (e_var rfl) hm) ?_
      refine s_seq (d_set2 (x := C.rest / m) (p_div (p_int1 (p_cons (d_ix2 (e_var rfl)) a_nil)) (e_var rfl) (dm _)) (e_var rfl) hf) ?_
      exact p_ret (e_var rfl)
    · have e2 : take1 C m = (((C.seed * 48271 + 11) % 2147483647 / 3) % m, { C with seed := (C.seed * 48271 + 11) % 2147483647 }) := by
        unfold take1
        exact if_neg c4
      rw [e2]
      have b := ok.s
      refine q_skip (p_test (p_gt (i := C.rest) (j := 0) (d_ix2 (e_var rfl)) e_int)) (decide_eq_false c4) ?_
      refine s_seq (d_set3 (x := (C.seed * 48271 + 11) % 2147483647) (p_mod (p_int1 (p_cons (p_add (p_mul (d_ix3 (e_var rfl)) e_int (mulW (m := 32) (n := 32) (by omega) (by decide) (by decide))) e_int) a_nil)) e_int (by decide)) (e_var rfl) hf) ?_
      exact p_ret (p_mod (p_int1 (p_cons (p_div (d_ix3 (e_var rfl)) e_int (divW (n := 2) (by decide) (by decide) (by decide))) a_nil)) (e_var rfl) hm)
theorem fok_law_gcd (Tp : Top K mg base) : FnOk P w K mg base CX0 1 Tp.f_law_gcd Tp.d_law_gcd ["a", "b"] (spP K RGcd) := by
  refine Tp.F_law_gcd.ok sc_law_gcd (fun vs H Q E h => len_P (fun _ _ ⟨_, _, e, _⟩ => by rw [e]; rfl) h) (fun cdv A outer s H vs Q E hr h => ?_)
  refine ⟨_, (pss_cons (ps_while PassesOwn.never (pt_cmpR op_ne (pv 1) pe_int (nomark _)) (pss_one (ps_par (i := 0) (j := 1) rfl sc_law_gcd.nd rfl rfl (by decide) rfl rfl (pa_cons (pv 1) (pa_cons (pe_op op_mod (pe_callTy call_int1 (by rfl) Tp.n_int (by decide +kernel) (pa_cons (pv 0) pa_nil)) (pv 1)) pa_nil)) (by rfl))))
      (pss_one (ps_ret (pe_callB call_abs (by rfl) Tp.n_abs (by decide +kernel) (pa_cons (pv 0) pa_nil))))), body_P ?_ h⟩
  refine fun ds d r I => ?_
  obtain ⟨x, y, rfl, hx, hy, rfl⟩ := r
  walk_at "norm"
  refine s_seq (ρ1 := [some (.i (Int.gcd x y : Nat)), some (.i 0)]) (J := I) ?_ ?_
  · refine s_while (α := Int × Int) (fun s => Int.gcd s.1 s.2 = Int.gcd x y ∧ 0 ≤ s.1 ∧ 0 ≤ s.2) (fun s => [some (.i s.1), some (.i s.2)]) (fun _ => I) (fun s => s.2.natAbs) (x, y) ⟨rfl, hx, hy⟩ fun s iv => ?_
    obtain ⟨h1, h2, h3⟩ := iv
    by_cases h : s.2 = 0
    · refine .inr ⟨t_is (t_test (p_neI (i := s.2) (j := 0) (by walk_at "ev") (by walk_at "ev"))) (by rw [h]; rfl), ?_⟩
      rw [h, Int.gcd_zero_right] at h1
      have e : s.1 = (Int.gcd x y : Nat) := by rw [← h1]; omega
      rw [h, e]
    · refine .inl ⟨t_is (t_test (p_neI (i := s.2) (j := 0) (by walk_at "ev") (by walk_at "ev"))) (by rw [decide_eq_false h]; rfl), .inl ⟨(s.2, s.1 % s.2), ⟨(gcd_step s.1 s.2).trans h1, h3, Int.emod_nonneg _ h⟩, ?_, ?_⟩⟩
      · have q := Int.emod_lt_of_pos s.1 (show 0 < s.2 by omega)
        have q2 := Int.emod_nonneg s.1 h
        show (s.1 % s.2).natAbs < s.2.natAbs
        omega
      · refine p_par (d := .i s.2) (e := .i (s.1 % s.2)) ?_
        walk_at "ev"
        omega
  · refine p_ret (e_is (p_abs (i := (Int.gcd x y : Nat)) (by walk_at "ev")) ?_)
    rw [Int.natAbs_natCast]
theorem fok_law_word (Tp : Top K mg base) : FnOk P w K mg base CX0 1 Tp.f_law_word Tp.d_law_word ["a"] (spP K RWord) := by
  refine Tp.F_law_word.ok sc_law_word (fun vs H Q E h => len_P (fun _ _ ⟨_, e, _⟩ => by rw [e]; rfl) h) (fun cdv A outer s H vs Q E hr h => ?_)
  refine ⟨_, (pss_one (ps_ret (pe_ifExp (pt_cmpR op_eq (pe_ix (r := rIxT K) ix_tup (pv 0) pe_int (fun _ _ => rfl)) pe_int (nomark _)) (pe_callTy call_str_int (by rfl) Tp.n_str (by decide +kernel) (pa_cons (pe_ix (r := rIxT K) ix_tup (pv 0) pe_int (fun _ _ => rfl)) pa_nil)) (pe_op op_add_str (pe_op op_add_str (pe_callTy call_str_int (by rfl) Tp.n_str (by decide +kernel) (pa_cons (pe_ix (r := rIxT K) ix_tup (pv 0) pe_int (fun _ _ => rfl)) pa_nil)) pe_str) (pe_callTy call_str_int (by rfl) Tp.n_str (by decide +kernel) (pa_cons (pe_ix (r := rIxT K) ix_tup (pv 0) pe_int (fun _ _ => rfl)) pa_nil)))))), body_P ?_ h⟩
  refine fun ds d r I => ?_
  obtain ⟨a, rfl, ha, rfl⟩ := r
  walk_at "norm"
  have l1 := len_sg ha.n (by decide)
  have l2 := dg_len ha.d (by decide)
  have sg2 : sg a.2 = dg a.2.natAbs := by
    have := ha.p
    unfold sg
    rw [if_neg (by omega)]
  refine p_ret ?_
  unfold wr
  by_cases c : a.2 = 1
  · rw [if_pos c, List.append_nil]
    exact e_ifT (t_is (p_test (p_eqI (i := a.2) (j := 1) (p_f2 (e_var rfl)) e_int)) (decide_eq_true c)) (e_is (e_strI (i := a.1) (p_cons (p_f1 (e_var rfl)) a_nil) (few560 ha.n)) (by rw [sx_int]))
  · rw [if_neg c]
    exact e_ifF (t_is (p_test (p_eqI (i := a.2) (j := 1) (p_f2 (e_var rfl)) e_int)) (decide_eq_false c)) (e_is (e_is (e_addS (x := sx (sg a.1 ++ [47])) (y := sx (dg a.2.natAbs)) (e_is (e_addS (x := sx (sg a.1)) (y := sx [47]) (e_is (e_strI (i := a.1) (p_cons (p_f1 (e_var rfl)) a_nil) (few560 ha.n)) (by rw [sx_int])) (e_is e_str (by rw [st_slash])) (by rw [sx_len, sx_len, sizeLine_eq]; rw [List.length_singleton]; omega)) (by rw [sx_app])) (e_is (e_strI (i := a.2) (p_cons (p_f2 (e_var rfl)) a_nil) (few560 ha.d)) (by rw [sx_int, sg2])) (by rw [sx_len, sx_len, sizeLine_eq]; rw [List.length_append, List.length_singleton]; omega)) (by rw [sx_app])) (by rw [List.append_assoc]; rfl))
theorem fok_is_decimal (Tp : Top K mg base) : FnOk P w K mg base CX0 2 Tp.f_is_decimal Tp.d_is_decimal ["text"] (spT K Tp.tabs RIsD) := by
  refine Tp.F_is_decimal.ok sc_is_decimal (fun vs H Q E h => len_P (fun _ _ ⟨_, e, _⟩ => by rw [e]; rfl) h) (fun A outer s H vs Q E hr h => ?_)
  refine ⟨_, (pss_cons (ps_if (PW.pt (pw_or (pt_cmpR (op_eqD hr.units) (pv 0) pe_str (nomark _)) (pw_or1 (PW.pt (pw_and (pt_cmpR (op_eqD hr.units) (pe_ix (r := rIxS) ix_str (pv 0) pe_int (fun _ _ => rfl)) pe_str (nomark _)) (pw_and1 (pt_cmpR (op_neD hr.units) (pv 0) pe_str (nomark _)))))))) (pss_one (ps_ret pe_bl)) pss_nil)
      (pss_one (ps_ret (GX.pe_all (own := [("figure", 1)]) hr (by rfl) Tp.n_all (by decide +kernel) Tp.tb_is_decimal rfl (blkOk_by (N := ["text", "figure"]) (sc := defScope s_is_decimal) (by decide +kernel)) ⟨rfl, by decide +kernel, rfl⟩ sc_is_decimal.nd (pi_str (pv 0)) (fun _ _ _ _ _ _ _ => (pg_name (i := 1) sc_is_decimal.nd rfl (Or.inl rfl))) (fun _ _ _ _ _ _ hr => pts_nil) (fun _ _ _ _ _ _ hr => (pe_cmpR op_in_sign (pv 1) pe_str rfl)) (fun _ => rfl))))), body_T ?_ h⟩
  refine fun ds d r I hT => ?_
  obtain ⟨l, rfl, hl, ht, rfl⟩ := r
  walk_at "norm"
  have t0 : Tx [] := fun c hc => by cases hc
  have t48 : Tx [48] := fun c hc => by rw [List.mem_singleton.mp hc]; decide
  have EQ : ∀ {ρ : Rho} {ta : TE} {m k : List Nat} {z : Str}, z = sx k → Tx m → Tx k → PL.E K ta ρ I (.d (.str (sx m))) I → PL.T K (tTest (tOp (rEqD K) ta (tC (.str z)))) ρ I (decide (m = k)) I := fun hz hm hk e => by
    subst hz
    exact t_is (p_test (p_eqD (x := .str (sx _)) (y := .str (sx _)) e e_str (sh_str hm) (sh_str hk))) (eqv_s _ _)
  have NQ : ∀ {ρ : Rho} {ta : TE} {m k : List Nat} {z : Str}, z = sx k → Tx m → Tx k → PL.E K ta ρ I (.d (.str (sx m))) I → PL.T K (tTest (tOp (rNeD K) ta (tC (.str z)))) ρ I (!decide (m = k)) I := fun hz hm hk e => by
    subst hz
    exact t_is (p_test (p_neD (x := .str (sx _)) (y := .str (sx _)) e e_str (sh_str hm) (sh_str hk))) (by rw [eqv_s])
  by_cases c0 : l = []
  · subst c0
    have ed : decide (IsDec []) = false := decide_eq_false fun z => z.1 rfl
    rw [ed]
    exact s_stop (q_ifT (t_is (t_or (b := true) (c := false) (EQ st_nil t0 t0 (e_var rfl)) fun z => nomatch z) rfl) rfl (p_ret e_bl))
  obtain ⟨c, r, rfl⟩ : ∃ c r, l = c :: r := by
    cases l with
    | nil => exact absurd rfl c0
    | cons c r => exact ⟨c, r, rfl⟩
  have tc : Tx [c] := fun d hd => by rw [List.mem_singleton.mp hd]; exact ht c List.mem_cons_self
  have eL : (sx (c :: r)).cps.toList = c :: r := by simp
  have at0_ : atI (sx (c :: r)).cps.toList 0 = some c := by
    rw [eL]
    simp [atI, ixN]
  have e0 : decide (c :: r = []) = false := decide_eq_false (List.cons_ne_nil _ _)
  have TST : PL.T K _ [some (.d (.str (sx (c :: r)))), none] I (decide (c :: r = []) || (decide ([c] = [48]) && !decide (c :: r = [48]))) I := t_or (EQ (ρ := [some (.d (.str (sx (c :: r)))), none]) st_nil ht t0 (e_var (i := 0) rfl)) fun _ => t_and (EQ (m := [c]) st_0 tc t48 (e_ixS (a := sx (c :: r)) (i := 0) (c := c) (e_var (i := 0) rfl) e_int (by rw [sx_len]; exact hl) at0_)) fun _ => NQ st_0 ht t48 (e_var (i := 0) rfl)
  by_cases bad : c = 48 ∧ r ≠ []
  · have ed : decide (IsDec (c :: r)) = false := decide_eq_false fun z => by
      have := z.2.2 (by rw [bad.1]; rfl)
      exact bad.2 (List.cons.inj this).2
    rw [ed]
    refine s_stop (q_ifT (t_is TST ?_) rfl (p_ret e_bl))
    rw [e0, bad.1, Bool.false_or, decide_eq_true rfl, Bool.true_and, Bool.not_eq_true', decide_eq_false_iff_not]
    exact fun z => bad.2 (List.cons.inj z).2
  refine q_skip (b := false) (t_is TST ?_) rfl ?_
  · rw [e0, Bool.false_or, Bool.and_eq_false_iff]
    by_cases c48 : c = 48
    · right
      rw [Bool.not_eq_false', decide_eq_true_iff]
      have : r = [] := by
        by_cases z : r = []
        · exact z
        · exact absurd ⟨c48, z⟩ bad
      rw [c48, this]
    · exact .inl (decide_eq_false fun z => c48 (List.cons.inj z).1)
  have dec_eq : decide (IsDec (c :: r)) = (c :: r).all fun d => decide (48 ≤ d ∧ d ≤ 57) := by
    rw [Bool.eq_iff_iff, decide_eq_true_iff, List.all_eq_true]
    constructor
    · intro z d hd
      exact decide_eq_true (z.2.1 d hd)
    · intro z
      refine ⟨List.cons_ne_nil _ _, fun d hd => of_decide_eq_true (z d hd), fun hh => ?_⟩
      have c48 : c = 48 := Option.some.inj hh
      by_cases zr : r = []
      · rw [c48, zr]
      · exact absurd ⟨c48, zr⟩ bad
  rw [dec_eq]
  refine p_ret (e_is (e_genS (T' := Tp.tabs) (P := Tp.tp_is_decimal) (z := sx (c :: r)) (ks := ((c :: r).map fun d => decide (48 ≤ d ∧ d ≤ 57)).map fun b => (true, b)) List.mem_cons_self (e_var rfl) (by rw [eL, List.length_map, List.length_map, List.length_map]) fun i x p hx hp => ?_) ?_)
  · rw [eL, List.getElem?_map, Option.map_eq_some_iff] at hx
    obtain ⟨d, hd, rfl⟩ := hx
    rw [List.getElem?_map, List.getElem?_map, hd] at hp
    obtain rfl := Option.some.inj hp
    exact ⟨_, w_name List.mem_cons_self, t_yes, fun _ => e_is (e_inSg (c := d) (e_var rfl) e_str) (by rw [in_fig])⟩
  · rw [genB_all, List.all_map]
    rfl
theorem fok_write_fraction (Tp : Top K mg base) : FnOk P w K mg base CX0 2 Tp.f_write_fraction Tp.d_write_fraction ["a"] (spP K RWr) := by
  have G_decimal := fok_decimal (P := P) (w := w) (base := base) Tp
  refine Tp.F_write_fraction.ok sc_write_fraction (fun vs H Q E h => len_P (fun _ _ ⟨_, e, _⟩ => by rw [e]; rfl) h) (fun cdv A outer s H vs Q E hr h => ?_)
  refine ⟨_, (pss_cons (ps_set (i := 1) sc_write_fraction.nd rfl (.inl rfl) (pe_call G_decimal (hr.mono (by decide)) (by rfl) Tp.g_decimal Tp.F_decimal.kp Tp.b_decimal .nil pass0 (pa_cons (pe_callB call_abs (by rfl) Tp.n_abs (by decide +kernel) (pa_cons (pe_ix (r := rIxT K) ix_tup (pv 0) pe_int (fun _ _ => rfl)) pa_nil)) pa_nil)))
      (pss_cons (ps_if (pt_cmpR op_lt (pe_ix (r := rIxT K) ix_tup (pv 0) pe_int (fun _ _ => rfl)) pe_int (nomark _)) (pss_one (ps_set (i := 1) sc_write_fraction.nd rfl (.inl rfl) (pe_op op_add_str pe_str (pv 1)))) pss_nil)
      (pss_cons (ps_if (pt_cmpR op_ne (pe_ix (r := rIxT K) ix_tup (pv 0) pe_int (fun _ _ => rfl)) pe_int (nomark _)) (pss_one (ps_set (i := 1) sc_write_fraction.nd rfl (.inl rfl) (pe_op op_add_str (pe_op op_add_str (pv 1) pe_str) (pe_call G_decimal (hr.mono (by decide)) (by rfl) Tp.g_decimal Tp.F_decimal.kp Tp.b_decimal .nil pass0 (pa_cons (pe_ix (r := rIxT K) ix_tup (pv 0) pe_int (fun _ _ => rfl)) pa_nil))))) pss_nil)
      (pss_one (ps_ret (pv 1)))))), body_P ?_ h⟩
  refine fun ds d r I => ?_
  obtain ⟨a, rfl, h2, b1, b2, rfl⟩ := r
  walk_at "norm"
  have l1 := dg_len b1 (by decide)
  have l2 := dg_len b2 (by decide)
  have ea2 : ((a.2.natAbs : Nat) : Int) = a.2 := by omega
  refine q_asg (d := .d (.str (sx (dg a.1.natAbs)))) (p_call (R := RDec) (ds := [.i ((a.1.natAbs : Nat) : Int)]) (p_cons (p_abs (p_cons (p_f1 (e_var rfl)) a_nil)) a_nil) ⟨a.1.natAbs, rfl, b1, rfl⟩) ?_
  refine s_seq (ρ1 := [some (.d (fr a)), some (.d (.str (sx (sg a.1))))]) (J := I) ?_ ?_
  · unfold sg
    by_cases c : a.1 < 0
    · rw [if_pos c]
      exact q_ifT (p_test (p_lt (i := a.1) (j := 0) (p_f1 (e_var rfl)) e_int)) (decide_eq_true c) (p_asg (e_is (e_addS (x := Str.ofString "-") (y := sx (dg a.1.natAbs)) e_str (e_var rfl) (by rw [st_minus, sx_len, sx_len, sizeLine_eq, List.length_singleton]; omega)) (by rw [st_minus, sx_app]; rfl)))
    · rw [if_neg c]
      exact q_ifF (p_test (p_lt (i := a.1) (j := 0) (p_f1 (e_var rfl)) e_int)) (decide_eq_false c) s_next
  have l3 : (sg a.1).length ≤ 1101 := by
    unfold sg
    split
    · rw [List.length_cons]; omega
    · omega
  refine s_seq (ρ1 := [some (.d (fr a)), some (.d (.str (sx (wr a))))]) (J := I) ?_ (p_ret (e_var rfl))
  unfold wr
  by_cases c : a.2 = 1
  · rw [if_pos c, List.append_nil]
    exact q_ifF (p_test (p_neI (i := a.2) (j := 1) (p_f2 (e_var rfl)) e_int)) (by rw [decide_eq_true c]; rfl) s_next
  · rw [if_neg c]
    exact q_ifT (p_test (p_neI (i := a.2) (j := 1) (p_f2 (e_var rfl)) e_int)) (by rw [decide_eq_false c]; rfl) (p_asg (e_is (e_addS (x := sx (sg a.1 ++ [47])) (y := sx (dg a.2.natAbs)) (e_is (e_addS (x := sx (sg a.1)) (y := Str.ofString "/") (e_var rfl) e_str (by rw [st_slash, sx_len, sx_len, sizeLine_eq, List.length_singleton]; omega)) (by rw [st_slash, sx_app])) (p_call (R := RDec) (ds := [.i ((a.2.natAbs : Nat) : Int)]) (p_cons (e_is (p_f2 (e_var rfl)) (by rw [ea2])) a_nil) ⟨a.2.natAbs, rfl, b2, rfl⟩) (by rw [sx_len, sx_len, sizeLine_eq, List.length_append, List.length_singleton]; omega)) (by rw [sx_app, List.append_assoc]; rfl)))
theorem fok_law_signed (Tp : Top K mg base) : FnOk P w K mg base CX0 2 Tp.f_law_signed Tp.d_law_signed ["d", "most"] (spW K RSigned) := by
  have G_law_take := fok_law_take (P := P) (w := w) (base := base) Tp
  refine Tp.F_law_signed.ok sc_law_signed (fun vs H Q E h => len_W (fun _ _ _ _ ⟨_, e, _⟩ => by rw [e]; rfl) h) (fun cdv A outer s H vs Q E hr h => ?_)
  refine ⟨_, (pss_one (ps_ret (pe_op op_sub (pe_call G_law_take (hr.mono (by decide)) (by rfl) Tp.g_law_take Tp.F_law_take.kp Tp.b_law_take .nil pass0 (pa_cons (pv 0) (pa_cons (pe_op op_add (pe_op op_mulW pe_int (pv 1)) pe_int) pa_nil))) (pv 1)))), body_W ?_ h⟩
  refine fun ds C d C' r p J hf => ?_
  obtain ⟨m, rfl, ok, hm, hz, rfl, rfl⟩ := r
  walk_at "norm"
  refine s_ret (e_sub (e_draw (R := RTake) (ds := [.i (2 * m + 1)]) (C := C) (p_cons (e_var rfl) (p_cons (p_add (p_mul e_int (e_var rfl) (mulW (m := 2) (n := 8000) (by decide) hz (by decide))) e_int) a_nil)) ⟨_, rfl, ok, by omega, ?_, rfl, rfl⟩ hf) (e_var rfl))
  exact sz_le (n := 8500) (sz_add (m := 8002) (sz_mul (m := 2) (n := 8000) (by decide) hz) (Nat.lt_of_lt_of_le (show (1 : Int).natAbs < 2 ^ 1 by decide) (Nat.pow_le_pow_right (by decide) (by decide)))) (by decide)
theorem fok_law_f (Tp : Top K mg base) : FnOk P w K mg base CX0 2 Tp.f_law_f Tp.d_law_f ["a", "b"] (spP K RF) := by
  have G_law_gcd := fok_law_gcd (P := P) (w := w) (base := base) Tp
  refine Tp.F_law_f.ok sc_law_f (fun vs H Q E h => len_P (fun _ _ ⟨_, _, e, _⟩ => by rw [e]; rfl) h) (fun cdv A outer s H vs Q E hr h => ?_)
  refine ⟨_, (pss_cons (ps_if (pt_cmpR op_lt (pv 1) pe_int (nomark _)) (pss_cons (ps_set (i := 0) sc_law_f.nd rfl (.inl rfl) (pe_op op_sub pe_int (pv 0)))
      (pss_one (ps_set (i := 1) sc_law_f.nd rfl (.inl rfl) (pe_op op_sub pe_int (pv 1))))) pss_nil)
      (pss_cons (ps_set (i := 2) sc_law_f.nd rfl (.inl rfl) (pe_call G_law_gcd (hr.mono (by decide)) (by rfl) Tp.g_law_gcd Tp.F_law_gcd.kp Tp.b_law_gcd .nil pass0 (pa_cons (pe_callB call_abs (by rfl) Tp.n_abs (by decide +kernel) (pa_cons (pv 0) pa_nil)) (pa_cons (pv 1) pa_nil))))
      (pss_one (ps_ret (pe_tup (pa_cons (pe_op op_fdivW (pv 0) (pv 2)) (pa_cons (pe_op op_fdivW (pv 1) (pv 2)) pa_nil))))))), body_P ?_ h⟩
  refine fun ds d r I => ?_
  obtain ⟨x, y, rfl, h0, hx, hy, rfl⟩ := r
  walk_at "norm"
  refine s_seq (ρ1 := [some (.i (if y < 0 then 0 - x else x)), some (.i (if y < 0 then 0 - y else y)), none]) (J := I) ?_ ?_
  · by_cases h : y < 0
    · rw [if_pos h, if_pos h]
      exact q_ifT (p_test (p_lt (i := y) (j := 0) (by walk_at "ev") (by walk_at "ev"))) (decide_eq_true h) (q_asg (d := .i (0 - x)) (by walk_at "ev") (p_asg (d := .i (0 - y)) (by walk_at "ev")))
    · rw [if_neg h, if_neg h]
      exact q_ifF (p_test (p_lt (i := y) (j := 0) (by walk_at "ev") (by walk_at "ev"))) (decide_eq_false h) s_next
  · have e : lf x y = nf (if y < 0 then 0 - x else x) (if y < 0 then 0 - y else y) := by
      unfold lf
      split <;> rfl
    rw [e]
    have h0' : 0 < (if y < 0 then 0 - y else y) := by split <;> omega
    have hx' : (if y < 0 then 0 - x else x).natAbs < 2 ^ 8500 := by
      split
      · rw [Int.zero_sub, Int.natAbs_neg]; exact hx
      · exact hx
    have hy' : (if y < 0 then 0 - y else y).natAbs < 2 ^ 8500 := by
      split
      · rw [Int.zero_sub, Int.natAbs_neg]; exact hy
      · exact hy
    generalize (if y < 0 then 0 - y else y) = v at *
    generalize (if y < 0 then 0 - x else x) = u at *
    have g0 : Int.gcd u v ≠ 0 := Int.gcd_ne_zero_right (by omega)
    have hg : (0 : Int) < (Int.gcd u v : Nat) := by omega
    have zg : ((Int.gcd u v : Nat) : Int).natAbs < 2 ^ 8500 := sz_gcd hy' (by omega)
    refine q_asg (d := .i (Int.gcd u v : Nat)) (e_is (p_call (R := RGcd) (ds := [.i (u.natAbs : Nat), .i v]) (by walk_at "ev") ⟨_, _, rfl, by omega, by omega, rfl⟩) (by rw [gcd_abs])) ?_
    refine p_ret (p_frac (x := u / (Int.gcd u v : Nat)) (y := v / (Int.gcd u v : Nat)) ?_ rfl)
    walk_at "ev"
    · exact divW hg zg (by decide)
    · exact divW hg zg (by decide)
theorem fok_law_text (Tp : Top K mg base) : FnOk P w K mg base CX0 2 Tp.f_law_text Tp.d_law_text ["run"] (spP K RText) := by
  have G_law_word := fok_law_word (P := P) (w := w) (base := base) Tp
  refine Tp.F_law_text.ok sc_law_text (fun vs H Q E h => len_P (fun _ _ ⟨_, e, _⟩ => by rw [e]; rfl) h) (fun cdv A outer s H vs Q E hr h => ?_)
  refine ⟨_, (pss_cons (ps_set (i := 1) sc_law_text.nd rfl (.inl rfl) pe_str)
      (pss_cons (ps_for PassesOwn.never rfl (pi_tup (pv 0)) (pg_tup rfl (pgs_cons (pg_name (i := 2) sc_law_text.nd rfl (.inl rfl)) (pgs_cons (pg_name (i := 3) sc_law_text.nd rfl (.inl rfl)) (pgs_cons (pg_name (i := 4) sc_law_text.nd rfl (.inl rfl)) pgs_nil)))) (pss_cons (ps_set (i := 1) sc_law_text.nd rfl (.inl rfl) (pe_op op_add_str (pv 1) pe_str))
      (pss_cons (ps_for PassesOwn.never rfl (pi_tup (pv 2)) (pg_tup rfl (pgs_cons (pg_name (i := 5) sc_law_text.nd rfl (.inl rfl)) (pgs_cons (pg_name (i := 6) sc_law_text.nd rfl (.inl rfl)) pgs_nil))) (pss_one (ps_set (i := 1) sc_law_text.nd rfl (.inl rfl) (pe_op op_add_str (pe_op op_add_str (pv 1) (pe_join pe_str (pe_lst (pa_cons pe_str (pa_cons (pe_callTy call_str_int (by rfl) Tp.n_str (by decide +kernel) (pa_cons (pv 5) pa_nil)) (pa_cons (pe_call G_law_word (hr.mono (by decide)) (by rfl) Tp.g_law_word Tp.F_law_word.kp Tp.b_law_word .nil pass0 (pa_cons (pe_ix (r := rIxT K) ix_tup (pv 6) pe_int (fun _ _ => rfl)) pa_nil)) (pa_cons (pe_call G_law_word (hr.mono (by decide)) (by rfl) Tp.g_law_word Tp.F_law_word.kp Tp.b_law_word .nil pass0 (pa_cons (pe_ix (r := rIxT K) ix_tup (pv 6) pe_int (fun _ _ => rfl)) pa_nil)) pa_nil))))))) pe_str))))
      (pss_cons (ps_for PassesOwn.never rfl (pi_tup (pv 3)) (pg_name (i := 7) sc_law_text.nd rfl (.inl rfl)) (pss_one (ps_set (i := 1) sc_law_text.nd rfl (.inl rfl) (pe_op op_add_str (pe_op op_add_str (pv 1) (pe_join pe_str (pe_lst (pa_cons pe_str (pa_cons (pe_call G_law_word (hr.mono (by decide)) (by rfl) Tp.g_law_word Tp.F_law_word.kp Tp.b_law_word .nil pass0 (pa_cons (pe_ix (r := rIxT K) ix_tup (pv 7) pe_int (fun _ _ => rfl)) pa_nil)) (pa_cons (pe_call G_law_word (hr.mono (by decide)) (by rfl) Tp.g_law_word Tp.F_law_word.kp Tp.b_law_word .nil pass0 (pa_cons (pe_ix (r := rIxT K) ix_tup (pv 7) pe_int (fun _ _ => rfl)) pa_nil)) pa_nil)))))) pe_str))))
      (pss_one (ps_for PassesOwn.never rfl (pi_tup (pv 4)) (pg_tup rfl (pgs_cons (pg_name (i := 5) sc_law_text.nd rfl (.inl rfl)) (pgs_cons (pg_name (i := 8) sc_law_text.nd rfl (.inl rfl)) pgs_nil))) (pss_one (ps_set (i := 1) sc_law_text.nd rfl (.inl rfl) (pe_op op_add_str (pe_op op_add_str (pv 1) (pe_join pe_str (pe_lst (pa_cons pe_str (pa_cons (pe_ix (r := rIxT K) ix_tup (pv 5) pe_int (fun _ _ => rfl)) (pa_cons (pe_callTy call_str_int (by rfl) Tp.n_str (by decide +kernel) (pa_cons (pe_ix (r := rIxT K) ix_tup (pv 5) pe_int (fun _ _ => rfl)) pa_nil)) (pa_cons (pe_callTy call_str_int (by rfl) Tp.n_str (by decide +kernel) (pa_cons (pe_ix (r := rIxT K) ix_tup (pv 5) pe_int (fun _ _ => rfl)) pa_nil)) (pa_cons (pe_callTy call_str_int (by rfl) Tp.n_str (by decide +kernel) (pa_cons (pe_ix (r := rIxT K) ix_tup (pv 5) pe_int (fun _ _ => rfl)) pa_nil)) (pa_cons (pe_call G_law_word (hr.mono (by decide)) (by rfl) Tp.g_law_word Tp.F_law_word.kp Tp.b_law_word .nil pass0 (pa_cons (pv 8) pa_nil)) pa_nil))))))))) pe_str)))))))))
      (pss_one (ps_ret (pv 1))))), body_P ?_ h⟩
  refine fun ds d x I => ?_
  obtain ⟨r, rfl, hr, ht, rfl⟩ := x
  walk_at "norm"
  obtain ⟨TT, eT⟩ : ∃ TT, TT = textOf r := ⟨_, rfl⟩
  rw [← eT] at ht ⊢
  refine q_asg (d := .d (.str (sx []))) (e_is e_str (by rw [st_nil])) ?_
  refine s_loopR (α := List Nat) (bs := r) (f := fun _ s => stepD s) (fun _ rest t => t ++ glue (linesAll rest) = TT ∧ ∀ s ∈ rest, FitS s) (fun t => [some (.d (runD r)), some (.d (.str (sx (t)))), none, none, none, none, none, none, none]) (fun _ => I) [] ⟨by rw [eT]; rfl, hr⟩ (iw_t (ds := r.map stepD) (e_var rfl)) (by rw [List.length_map]) (fun i z h => at0_map h) rfl (fun i s rest t0 hw => ?_) (fun t i hw => ?_)
  rotate_left
  · have e : t = TT := by
      have := hw.1
      rw [← this]
      show t = t ++ []
      rw [List.append_nil]
    rw [e]
    exact p_ret (e_var rfl)
  obtain ⟨h1, h2⟩ := hw
  have hs := h2 s List.mem_cons_self
  rw [all_cons, glue_app] at h1
  have e1 : glue (stLines s) = wStep ++ 10 :: (glue (s.ps.map pushL) ++ (glue (s.ss.map speedL) ++ glue (s.fs.map forceL))) := by
    unfold stLines
    rw [glue_cons, glue_app, glue_app]
  rw [e1] at h1
  have lt0 := congrArg List.length h1
  simp only [List.length_append, List.length_cons, List.length_nil] at lt0
  refine ⟨_, g_tup rfl (g_cons g_name (g_cons g_name (g_cons g_name g_nil))), .inl ⟨t0 ++ glue (stLines s), ⟨?_, fun z hz => h2 z (List.mem_cons_of_mem _ hz)⟩, ?_⟩⟩
  · rw [← h1, e1, List.append_assoc]
  refine s_lessN (ρ' := [some (.d (runD r)), some (.d (.str (sx (t0 ++ glue (stLines s))))), some (.d (.tuple (s.ps.map pushD))), some (.d (.tuple (s.ss.map vD))), some (.d (.tuple (s.fs.map forceD))), none, none, none, none]) ⟨.inr rfl, .inr rfl, .inl rfl, .inl rfl, .inl rfl, .inr rfl, .inr rfl, .inr rfl, .inr rfl, trivial⟩ ?_
  
  refine q_asg (d := .d (.str (sx (t0 ++ (wStep ++ [10]))))) (e_is (e_addS (x := sx t0) (y := sx (wStep ++ [10])) (e_var rfl) (e_is e_str (by rw [st_stepL])) (by rw [sx_len, sx_len, sizeLine_eq]; simp only [List.length_append, List.length_cons, List.length_nil]; omega)) (by rw [sx_app])) ?_
  refine s_loopR (α := List Nat) (bs := s.ps) (f := fun _ v => pushD v) (fun _ vs t => t ++ glue (vs.map pushL) ++ (glue (s.ss.map speedL) ++ (glue (s.fs.map forceL) ++ glue (linesAll rest))) = TT ∧ ∀ v ∈ vs, v ∈ s.ps) (fun t => [some (.d (runD r)), some (.d (.str (sx (t)))), some (.d (.tuple (s.ps.map pushD))), some (.d (.tuple (s.ss.map vD))), some (.d (.tuple (s.fs.map forceD))), none, none, none, none]) (fun _ => I) _ ⟨?_, fun _ z => z⟩ (iw_t (ds := (s.ps).map pushD) (e_var rfl)) (by rw [List.length_map]) (fun i z h => at0_map h) rfl (fun i v vs t hw => ?_) (fun t i hw => ?_)
  · rw [← h1]; simp
  · obtain ⟨k1, k2⟩ := hw
    have hh := hs.hp v (k2 v List.mem_cons_self)
    have l1 := wr_len2 hh.2.1
    have l2 := wr_len2 hh.2.2
    have l3 := dg_len (show v.1 < 10 ^ 10 by have := hh.1; omega) (by decide)
    rw [List.map_cons, glue_cons] at k1
    have lt := congrArg List.length k1
    simp only [List.length_append, List.length_cons] at lt
    refine ⟨_, g_tup rfl (g_cons g_name (g_cons g_name g_nil)), .inl ⟨t ++ pushL v ++ [10], ⟨by rw [← k1]; simp, fun z hz => k2 z (List.mem_cons_of_mem _ hz)⟩, ?_⟩⟩
    refine s_lessN (ρ' := [some (.d (runD r)), some (.d (.str (sx (t ++ pushL v ++ [10])))), some (.d (.tuple (s.ps.map pushD))), some (.d (.tuple (s.ss.map vD))), some (.d (.tuple (s.fs.map forceD))), some (.i ((v.1 : Nat) : Int)), some (.d (vD v.2)), none, none]) ⟨.inr rfl, .inr rfl, .inr rfl, .inr rfl, .inr rfl, .inl rfl, .inl rfl, .inr rfl, .inr rfl, trivial⟩ ?_
    exact p_asg (e_is (e_addS (x := sx (t ++ (pushL v))) (y := sx [10]) (e_is (e_addS (x := sx t) (y := sx (pushL v)) (e_var rfl) (e_is (e_joinL (a := Str.ofString " ") (ys := [wPush, (dg v.1), (wr v.2.1), (wr v.2.2)].map sx) e_str (e_lst (ds := [.d (.str (sx wPush)), .d (.str (sx (dg v.1))), .d (.str (sx (wr v.2.1))), .d (.str (sx (wr v.2.2)))]) (xs := [.str (sx wPush), .str (sx (dg v.1)), .str (sx (wr v.2.1)), .str (sx (wr v.2.2))]) (a_cons (e_is e_str (by rw [st_push])) (a_cons (e_is (e_strI (i := ((v.1 : Nat) : Int)) (p_cons (e_var rfl) a_nil) (few_bits (k := 10) (by have := hh.1; omega) (by decide))) (by rw [sx_nat])) (a_cons (p_call (R := RWord) (ds := [.d (fr v.2.1)]) (p_cons (p_i0 (e_var rfl)) a_nil) ⟨v.2.1, rfl, hh.2.1, rfl⟩) (a_cons (p_call (R := RWord) (ds := [.d (fr v.2.2)]) (p_cons (p_i1 (e_var rfl)) a_nil) ⟨v.2.2, rfl, hh.2.2, rfl⟩) a_nil)))) (.cons (.cons (.cons (.cons (.nil))))) (show 4 ≤ 100000 by decide)) (by simp only [List.map_cons, List.map_nil, List.sum_cons, List.sum_nil, sx_len, List.length_cons, List.length_nil]; have : (Str.ofString " ").length = 1 := rfl; omega)) (by rw [st_sp1, jn32]; rfl)) (by rw [sx_len, sx_len, sizeLine_eq]; omega)) (by rw [sx_app])) (e_is e_str (by rw [st_lf])) (by rw [sx_len, sx_len, sizeLine_eq]; rw [List.length_append, List.length_singleton]; omega)) (by rw [sx_app]))
  obtain ⟨h3, _⟩ := hw
  rw [List.map_nil] at h3
  replace h3 : t ++ [] ++ (glue (s.ss.map speedL) ++ (glue (s.fs.map forceL) ++ glue (linesAll rest))) = TT := h3
  rw [List.append_nil] at h3
  refine s_loopR (α := List Nat) (bs := s.ss) (f := fun _ v => vD v) (fun _ vs t => t ++ glue (vs.map speedL) ++ (glue (s.fs.map forceL) ++ glue (linesAll rest)) = TT ∧ ∀ v ∈ vs, v ∈ s.ss) (fun t => [some (.d (runD r)), some (.d (.str (sx (t)))), some (.d (.tuple (s.ps.map pushD))), some (.d (.tuple (s.ss.map vD))), some (.d (.tuple (s.fs.map forceD))), none, none, none, none]) (fun _ => I) _ ⟨?_, fun _ z => z⟩ (iw_t (ds := (s.ss).map vD) (e_var rfl)) (by rw [List.length_map]) (fun i z h => at0_map h) rfl (fun i v vs t hw => ?_) (fun t i hw => ?_)
  · rw [← h3, List.append_assoc]
  · obtain ⟨k1, k2⟩ := hw
    have hh := hs.hs v (k2 v List.mem_cons_self)
    have l1 := wr_len2 hh.1
    have l2 := wr_len2 hh.2
    rw [List.map_cons, glue_cons] at k1
    have lt := congrArg List.length k1
    simp only [List.length_append, List.length_cons] at lt
    refine ⟨_, g_name, .inl ⟨t ++ speedL v ++ [10], ⟨by rw [← k1]; simp, fun z hz => k2 z (List.mem_cons_of_mem _ hz)⟩, ?_⟩⟩
    refine s_lessN (ρ' := [some (.d (runD r)), some (.d (.str (sx (t ++ speedL v ++ [10])))), some (.d (.tuple (s.ps.map pushD))), some (.d (.tuple (s.ss.map vD))), some (.d (.tuple (s.fs.map forceD))), none, none, some (.d (vD v)), none]) ⟨.inr rfl, .inr rfl, .inr rfl, .inr rfl, .inr rfl, .inr rfl, .inr rfl, .inl rfl, .inr rfl, trivial⟩ ?_
    exact p_asg (e_is (e_addS (x := sx (t ++ (speedL v))) (y := sx [10]) (e_is (e_addS (x := sx t) (y := sx (speedL v)) (e_var rfl) (e_is (e_joinL (a := Str.ofString " ") (ys := [wSpeed, (wr v.1), (wr v.2)].map sx) e_str (e_lst (ds := [.d (.str (sx wSpeed)), .d (.str (sx (wr v.1))), .d (.str (sx (wr v.2)))]) (xs := [.str (sx wSpeed), .str (sx (wr v.1)), .str (sx (wr v.2))]) (a_cons (e_is e_str (by rw [st_speed])) (a_cons (p_call (R := RWord) (ds := [.d (fr v.1)]) (p_cons (p_i0 (e_var rfl)) a_nil) ⟨v.1, rfl, hh.1, rfl⟩) (a_cons (p_call (R := RWord) (ds := [.d (fr v.2)]) (p_cons (p_i1 (e_var rfl)) a_nil) ⟨v.2, rfl, hh.2, rfl⟩) a_nil))) (.cons (.cons (.cons (.nil)))) (show 3 ≤ 100000 by decide)) (by simp only [List.map_cons, List.map_nil, List.sum_cons, List.sum_nil, sx_len, List.length_cons, List.length_nil]; have : (Str.ofString " ").length = 1 := rfl; omega)) (by rw [st_sp1, jn32]; rfl)) (by rw [sx_len, sx_len, sizeLine_eq]; omega)) (by rw [sx_app])) (e_is e_str (by rw [st_lf])) (by rw [sx_len, sx_len, sizeLine_eq]; rw [List.length_append, List.length_singleton]; omega)) (by rw [sx_app]))
  obtain ⟨h4, _⟩ := hw
  rw [List.map_nil] at h4
  replace h4 : t ++ [] ++ (glue (s.fs.map forceL) ++ glue (linesAll rest)) = TT := h4
  rw [List.append_nil] at h4
  refine s_loopR1 (α := List Nat) (bs := s.fs) (f := fun _ v => forceD v) (fun _ vs t => t ++ glue (vs.map forceL) ++ (glue (linesAll rest)) = TT ∧ ∀ v ∈ vs, v ∈ s.fs) (fun t => [some (.d (runD r)), some (.d (.str (sx (t)))), some (.d (.tuple (s.ps.map pushD))), some (.d (.tuple (s.ss.map vD))), some (.d (.tuple (s.fs.map forceD))), none, none, none, none]) (fun _ => I) _ ⟨?_, fun _ z => z⟩ (iw_t (ds := (s.fs).map forceD) (e_var rfl)) (by rw [List.length_map]) (fun i z h => at0_map h) rfl (fun i v vs t hw => ?_) (fun t i hw => ?_)
  · rw [← h4, List.append_assoc]
  · obtain ⟨k1, k2⟩ := hw
    have hh := hs.hf v (k2 v List.mem_cons_self)
    have l1 := wr_len2 hh.2.2.2.2
    have l2 := dg_len (show v.1.a < 10 ^ 10 by have := hh.2.1; omega) (by decide)
    have l3 := dg_len (show v.1.b < 10 ^ 10 by have := hh.2.2.1; omega) (by decide)
    have l4 := dg_len (show v.1.s < 10 ^ 10 by have := hh.2.2.2.1; omega) (by decide)
    have l5 : v.1.k.length = 5 := by rcases hh.1 with e | e <;> rw [e] <;> rfl
    rw [List.map_cons, glue_cons] at k1
    have lt := congrArg List.length k1
    simp only [List.length_append, List.length_cons] at lt
    refine ⟨_, g_tup rfl (g_cons g_name (g_cons g_name g_nil)), .inl ⟨t ++ forceL v ++ [10], ⟨by rw [← k1]; simp, fun z hz => k2 z (List.mem_cons_of_mem _ hz)⟩, ?_⟩⟩
    refine s_lessN (ρ' := [some (.d (runD r)), some (.d (.str (sx (t ++ forceL v ++ [10])))), some (.d (.tuple (s.ps.map pushD))), some (.d (.tuple (s.ss.map vD))), some (.d (.tuple (s.fs.map forceD))), some (.d (nmD v.1)), none, none, some (.d (fr v.2))]) ⟨.inr rfl, .inr rfl, .inr rfl, .inr rfl, .inr rfl, .inl rfl, .inr rfl, .inr rfl, .inl rfl, trivial⟩ ?_
    exact p_asg (e_is (e_addS (x := sx (t ++ (forceL v))) (y := sx [10]) (e_is (e_addS (x := sx t) (y := sx (forceL v)) (e_var rfl) (e_is (e_joinL (a := Str.ofString " ") (ys := [wForce, v.1.k, (dg v.1.a), (dg v.1.b), (dg v.1.s), (wr v.2)].map sx) e_str (e_lst (ds := [.d (.str (sx wForce)), .d (.str (sx v.1.k)), .d (.str (sx (dg v.1.a))), .d (.str (sx (dg v.1.b))), .d (.str (sx (dg v.1.s))), .d (.str (sx (wr v.2)))]) (xs := [.str (sx wForce), .str (sx v.1.k), .str (sx (dg v.1.a)), .str (sx (dg v.1.b)), .str (sx (dg v.1.s)), .str (sx (wr v.2))]) (a_cons (e_is e_str (by rw [st_force])) (a_cons (p_i0 (e_var rfl)) (a_cons (e_is (e_strI (i := ((v.1.a : Nat) : Int)) (p_cons (p_i1 (e_var rfl)) a_nil) (few_bits (k := 10) (by have := hh.2.1; omega) (by decide))) (by rw [sx_nat])) (a_cons (e_is (e_strI (i := ((v.1.b : Nat) : Int)) (p_cons (p_i2 (e_var rfl)) a_nil) (few_bits (k := 10) (by have := hh.2.2.1; omega) (by decide))) (by rw [sx_nat])) (a_cons (e_is (e_strI (i := ((v.1.s : Nat) : Int)) (p_cons (e_ixT (j := 3) (e_var rfl) e_int rfl) a_nil) (few_bits (k := 10) (by have := hh.2.2.2.1; omega) (by decide))) (by rw [sx_nat])) (a_cons (p_call (R := RWord) (ds := [.d (fr v.2)]) (p_cons (e_var rfl) a_nil) ⟨v.2, rfl, hh.2.2.2.2, rfl⟩) a_nil)))))) (.cons (.cons (.cons (.cons (.cons (.cons (.nil))))))) (show 6 ≤ 100000 by decide)) (by simp only [List.map_cons, List.map_nil, List.sum_cons, List.sum_nil, sx_len, List.length_cons, List.length_nil]; have : (Str.ofString " ").length = 1 := rfl; omega)) (by rw [st_sp1, jn32]; rfl)) (by rw [sx_len, sx_len, sizeLine_eq]; omega)) (by rw [sx_app])) (e_is e_str (by rw [st_lf])) (by rw [sx_len, sx_len, sizeLine_eq]; rw [List.length_append, List.length_singleton]; omega)) (by rw [sx_app]))
  have h5 := hw.1
  rw [List.map_nil] at h5
  replace h5 : t ++ [] ++ glue (linesAll rest) = TT := h5
  rw [List.append_nil] at h5
  have e6 : t = t0 ++ glue (stLines s) := List.append_cancel_right (h5.trans (by rw [← h1, e1]; simp))
  rw [e6]
  exact s_next
theorem fok_law_bent (Tp : Top K mg base) : FnOk P w K mg base CX0 2 Tp.f_law_bent Tp.d_law_bent ["d", "text"] (spN K RBentR) := by
  have G_law_take := fok_law_take (P := P) (w := w) (base := base) Tp
  refine Tp.F_law_bent.ok sc_law_bent (fun vs H Q E h => len_N (fun _ _ _ _ ⟨_, e, _⟩ => by rw [e]; rfl) h) (fun cdv A outer s H vs Q E hr h => ?_)
  refine ⟨_, (pss_cons (ps_set (i := 2) sc_law_bent.nd rfl (.inl rfl) (pe_call G_law_take (hr.mono (by decide)) (by rfl) Tp.g_law_take Tp.F_law_take.kp Tp.b_law_take .nil pass0 (pa_cons (pv 0) (pa_cons pe_int pa_nil))))
      (pss_cons (ps_set (i := 3) sc_law_bent.nd rfl (.inl rfl) (pe_split (pv 1) pe_str))
      (pss_cons (ps_set (i := 4) sc_law_bent.nd rfl (.inl rfl) (pe_call G_law_take (hr.mono (by decide)) (by rfl) Tp.g_law_take Tp.F_law_take.kp Tp.b_law_take .nil pass0 (pa_cons (pv 0) (pa_cons (pe_callB call_len_seq (by rfl) Tp.n_len (by decide +kernel) (pa_cons (pv 3) pa_nil)) pa_nil))))
      (pss_cons (ps_set (i := 5) sc_law_bent.nd rfl (.inl rfl) (pe_call G_law_take (hr.mono (by decide)) (by rfl) Tp.g_law_take Tp.F_law_take.kp Tp.b_law_take .nil pass0 (pa_cons (pv 0) (pa_cons (pe_op op_add (pe_callB call_len_str (by rfl) Tp.n_len (by decide +kernel) (pa_cons (pv 1) pa_nil)) pe_int) pa_nil))))
      (pss_cons (ps_set (i := 6) sc_law_bent.nd rfl (.inl rfl) (pe_ix (r := rIxS) ix_str pe_str (pe_call G_law_take (hr.mono (by decide)) (by rfl) Tp.g_law_take Tp.F_law_take.kp Tp.b_law_take .nil pass0 (pa_cons (pv 0) (pa_cons pe_int pa_nil))) (fun _ _ => rfl)))
      (pss_cons (ps_if (pt_cmpR op_lt (pv 2) pe_int (nomark _)) (pss_one (ps_ret (pe_op op_add_str (pe_op op_add_str (pe_slice (r := rSlS) sl_str (pv 1) po_none (po_some (pv 5))) (pv 6)) (pe_slice (r := rSlS) sl_str (pv 1) (po_some (pe_op op_add (pv 5) pe_int)) po_none)))) pss_nil)
      (pss_cons (ps_if (pt_cmpR op_eq (pv 2) pe_int (nomark _)) (pss_one (ps_ret (pe_op op_add_str (pe_op op_add_str (pe_slice (r := rSlS) sl_str (pv 1) po_none (po_some (pv 5))) (pv 6)) (pe_slice (r := rSlS) sl_str (pv 1) (po_some (pv 5)) po_none)))) pss_nil)
      (pss_cons (ps_if (pt_cmpR op_eq (pv 2) pe_int (nomark _)) (pss_one (ps_ret (pe_op op_add_str (pe_slice (r := rSlS) sl_str (pv 1) po_none (po_some (pv 5))) (pe_slice (r := rSlS) sl_str (pv 1) (po_some (pe_op op_add (pv 5) pe_int)) po_none)))) pss_nil)
      (pss_cons (ps_if (pt_cmpR op_eq (pv 2) pe_int (nomark _)) (pss_one (ps_ret (pe_join pe_str (pe_op op_cat (pe_slice (r := rSlL K) sl_list (pv 3) po_none (po_some (pv 4))) (pe_slice (r := rSlL K) sl_list (pv 3) (po_some (pe_op op_add (pv 4) pe_int)) po_none))))) pss_nil)
      (pss_cons (ps_if (pt_cmpR op_eq (pv 2) pe_int (nomark _)) (pss_one (ps_ret (pe_join pe_str (pe_op op_cat (pe_slice (r := rSlL K) sl_list (pv 3) po_none (po_some (pe_op op_add (pv 4) pe_int))) (pe_slice (r := rSlL K) sl_list (pv 3) (po_some (pv 4)) po_none))))) pss_nil)
      (pss_one (ps_ret (pe_join pe_str (pe_op op_cat (pe_op op_cat (pe_slice (r := rSlL K) sl_list (pv 3) po_none (po_some (pv 4))) (pe_revL (pe_slice (r := rSlL K) sl_list (pv 3) (po_some (pv 4)) (po_some (pe_op op_add (pv 4) pe_int))))) (pe_slice (r := rSlL K) sl_list (pv 3) (po_some (pe_op op_add (pv 4) pe_int)) po_none))))))))))))))), body_N ?_ h⟩
  refine fun ds C Z Po r p J hf zp => ?_
  obtain ⟨l, rfl, ht, hl, hln, ok, rfl, rfl⟩ := r
  walk_at "norm"
  have z9 : ∀ m : Int, m.natAbs < 2 ^ 10 → m.natAbs < 2 ^ 8500 := fun m h => sz_le h (by decide)
  refine s_preN ?_
  obtain ⟨o1, _, _⟩ := take_ok (C := C) (m := 7) ok (by decide)
  refine s_seq (s_asg (d := .i (take C 7).1) (e_draw (R := RTake) (ds := [.i 7]) (C := C) (by walk_at "ev") ⟨_, rfl, ok, by decide, z9 7 (by decide), rfl, rfl⟩ hf)) ?_
  generalize (take C 7).1 = mn
  generalize (take C 7).2 = C1 at *
  refine q_asg (d := .l (strL (splC 10 l))) (e_is (e_splitS (e_var rfl) e_str (by rfl) (by rw [sx_len]; omega)) (by rw [st_lf, splitC_list, List.map_map]; rfl)) ?_
  have LL := glue_spl l
  have LP := splC_pos 10 l
  have LQ := splC_len 10 l
  obtain ⟨L, eL⟩ : ∃ L, L = splC 10 l := ⟨_, rfl⟩
  have tL : ∀ q ∈ L, Tx q := by rw [eL]; exact splC_tx 10 ht
  rw [← eL] at LL LP LQ hln ⊢
  have lz0 : (((strL L).length : Nat) : Int).natAbs < 2 ^ 10 := by rw [List.length_map]; omega
  obtain ⟨o2, u1, u2⟩ := take_ok (C := C1) (m := (((strL L).length : Nat) : Int)) o1 (by rw [List.length_map]; omega)
  refine s_seq (s_asg (d := .i (take C1 (((strL L).length : Nat) : Int)).1) (e_draw (R := RTake) (ds := [.i (((strL L).length : Nat) : Int)]) (C := C1) (p_cons (e_var rfl) (p_cons (p_len (ds := strL L) (p_cons (e_l2d (e_var rfl)) a_nil)) a_nil)) ⟨_, rfl, o1, by rw [List.length_map]; omega, z9 _ lz0, rfl, rfl⟩ hf)) ?_
  obtain ⟨hr_, hhr⟩ : ∃ n : Nat, (take C1 (((strL L).length : Nat) : Int)).1 = (n : Nat) := ⟨_, (Int.toNat_of_nonneg u1).symm⟩
  rw [hhr] at u2 ⊢
  generalize (take C1 (((strL L).length : Nat) : Int)).2 = C2 at *
  have hh : hr_ < L.length := by rw [List.length_map] at u2; omega
  have lz : (((l.length : Nat) : Int) + 1).natAbs < 2 ^ 10 := by omega
  obtain ⟨o3, u3, u4⟩ := take_ok (C := C2) (m := ((l.length : Nat) : Int) + 1) o2 (by omega)
  refine s_seq (s_asg (d := .i (take C2 (((l.length : Nat) : Int) + 1)).1) (e_draw (R := RTake) (ds := [.i (((l.length : Nat) : Int) + 1)]) (C := C2) (p_cons (e_var rfl) (p_cons (p_add (i := ((l.length : Nat) : Int)) (j := 1) (e_is (e_lenS (a := sx l) (p_cons (e_var rfl) a_nil) (by rw [sx_len]; omega)) (by rw [sx_len])) e_int) a_nil)) ⟨_, rfl, o2, by omega, z9 _ lz, rfl, rfl⟩ hf)) ?_
  obtain ⟨pl, hpl⟩ : ∃ n : Nat, (take C2 (((l.length : Nat) : Int) + 1)).1 = (n : Nat) := ⟨_, (Int.toNat_of_nonneg u3).symm⟩
  rw [hpl] at u4 ⊢
  generalize (take C2 (((l.length : Nat) : Int) + 1)).2 = C3 at *
  have hpl2 : pl ≤ l.length := by omega
  obtain ⟨o4, u5, u6⟩ := take_ok (C := C3) (m := 17) o3 (by decide)
  obtain ⟨sg_, hs1, hs2⟩ := signs_at st_17t u5 (by rw [st_17]; exact u6)
  refine s_seq (s_asg (d := .d (.str (sx [sg_]))) (e_ixS (a := Str.ofString "0123456789-/ \nstp") (c := sg_) e_str (e_draw (R := RTake) (ds := [.i 17]) (C := C3) (by walk_at "ev") ⟨_, rfl, o3, by decide, z9 17 (by decide), rfl, rfl⟩ hf) (by decide) hs1)) ?_
  generalize (take C3 17).2 = C4 at *
  have ts : Tx [sg_] := tx_one hs2
  have k1 : (l.take pl).length ≤ 600 := by rw [List.length_take]; omega
  have k2 : (l.drop (pl + 1)).length ≤ 600 := by rw [List.length_drop]; omega
  have k3 : (l.drop pl).length ≤ 600 := by rw [List.length_drop]; omega
  by_cases m0 : mn < 2
  · exact s_stopR ret_fin (q_ifT (p_test (p_lt (i := mn) (j := 2) (e_var rfl) e_int)) (decide_eq_true m0) (s_retN (s_ret (e_is (e_addS (x := sx (l.take pl ++ [sg_])) (y := sx (l.drop (pl + 1))) (e_is (e_addS (x := sx (l.take pl)) (y := sx [sg_]) (e_is (e_cutTo (z := sx l) (i := ((pl : Nat) : Int)) (e_var rfl) (e_var rfl) (by rw [sx_len]; omega)) (by rw [cutS_to])) (e_var rfl) (by rw [sx_len, sx_len, sizeLine_eq]; rw [List.length_singleton]; omega)) (by rw [sx_app])) (e_is (e_cutFrom (z := sx l) (i := ((pl + 1 : Nat) : Int)) (e_var rfl) (e_is (p_add (i := ((pl : Nat) : Int)) (j := 1) (e_var rfl) e_int) rfl) (by rw [sx_len]; omega)) (by rw [cutS_from])) (by rw [sx_len, sx_len, sizeLine_eq]; rw [List.length_append, List.length_singleton]; omega)) (by rw [sx_app]))) ⟨o4, _, rfl, tx_app (tx_app (tx_take ht _) ts) (tx_drop ht _), by rw [List.length_append, List.length_append, List.length_singleton, List.length_take, List.length_drop]; omega⟩))
  refine q_skip (p_test (p_lt (i := mn) (j := 2) (e_var rfl) e_int)) (decide_eq_false m0) ?_
  by_cases m2 : mn = 2
  · exact s_stopR ret_fin (q_ifT (p_test (p_eqI (i := mn) (j := 2) (e_var rfl) e_int)) (decide_eq_true m2) (s_retN (s_ret (e_is (e_addS (x := sx (l.take pl ++ [sg_])) (y := sx (l.drop pl)) (e_is (e_addS (x := sx (l.take pl)) (y := sx [sg_]) (e_is (e_cutTo (z := sx l) (i := ((pl : Nat) : Int)) (e_var rfl) (e_var rfl) (by rw [sx_len]; omega)) (by rw [cutS_to])) (e_var rfl) (by rw [sx_len, sx_len, sizeLine_eq]; rw [List.length_singleton]; omega)) (by rw [sx_app])) (e_is (e_cutFrom (z := sx l) (i := ((pl : Nat) : Int)) (e_var rfl) (e_var rfl) (by rw [sx_len]; omega)) (by rw [cutS_from])) (by rw [sx_len, sx_len, sizeLine_eq]; rw [List.length_append, List.length_singleton]; omega)) (by rw [sx_app]))) ⟨o4, _, rfl, tx_app (tx_app (tx_take ht _) ts) (tx_drop ht _), by rw [List.length_append, List.length_append, List.length_singleton, List.length_take, List.length_drop]; omega⟩))
  refine q_skip (p_test (p_eqI (i := mn) (j := 2) (e_var rfl) e_int)) (decide_eq_false m2) ?_
  by_cases m3 : mn = 3
  · exact s_stopR ret_fin (q_ifT (p_test (p_eqI (i := mn) (j := 3) (e_var rfl) e_int)) (decide_eq_true m3) (s_retN (s_ret (e_is (e_addS (x := sx (l.take pl)) (y := sx (l.drop (pl + 1))) (e_is (e_cutTo (z := sx l) (i := ((pl : Nat) : Int)) (e_var rfl) (e_var rfl) (by rw [sx_len]; omega)) (by rw [cutS_to])) (e_is (e_cutFrom (z := sx l) (i := ((pl + 1 : Nat) : Int)) (e_var rfl) (e_is (p_add (i := ((pl : Nat) : Int)) (j := 1) (e_var rfl) e_int) rfl) (by rw [sx_len]; omega)) (by rw [cutS_from])) (by rw [sx_len, sx_len, sizeLine_eq]; omega)) (by rw [sx_app]))) ⟨o4, _, rfl, tx_app (tx_take ht _) (tx_drop ht _), by rw [List.length_append, List.length_take, List.length_drop]; omega⟩))
  refine q_skip (p_test (p_eqI (i := mn) (j := 3) (e_var rfl) e_int)) (decide_eq_false m3) ?_
  have g1 := glue_td L hr_
  have g2 := glue_td L (hr_ + 1)
  have g3 := glue_at hh
  have g4 := hln _ (List.getElem_mem hh)
  have tT : ∀ n, ∀ q ∈ L.take n, Tx q := fun n q hq => tL q (List.mem_of_mem_take hq)
  have tD : ∀ n, ∀ q ∈ L.drop n, Tx q := fun n q hq => tL q (List.mem_of_mem_drop hq)
  have tA : ∀ {a b : List (List Nat)}, (∀ q ∈ a, Tx q) → (∀ q ∈ b, Tx q) → ∀ q ∈ a ++ b, Tx q := fun ha hb q hq => by
    rcases List.mem_append.mp hq with h | h
    · exact ha q h
    · exact hb q h
  have cl : ∀ n, (strL (L.take n)).length ≤ 600 ∧ (strL (L.drop n)).length ≤ 600 := fun n => by
    rw [List.length_map, List.length_map, List.length_take, List.length_drop]
    omega
  by_cases m4 : mn = 4
  · have gl : (glue (L.take hr_ ++ L.drop (hr_ + 1))).length ≤ 517 := by rw [glue_app, List.length_append]; omega
    exact s_stopR ret_fin (q_ifT (p_test (p_eqI (i := mn) (j := 4) (e_var rfl) e_int)) (decide_eq_true m4) (s_retN (s_ret (e_is (e_joinL (a := Str.ofString "\n") (ys := (L.take hr_ ++ L.drop (hr_ + 1)).map sx) e_str (e_l2d (e_is (e_cat (e_sliceTo (j := hr_) (e_l2d (e_var rfl)) (e_var rfl)) (e_sliceFrom (j := hr_ + 1) (e_l2d (e_var rfl)) (e_is (p_add (i := ((hr_ : Nat) : Int)) (j := 1) (e_var rfl) e_int) rfl)) (by simp only [List.length_take, List.length_drop, List.length_map]; omega)) (by simp only [List.map_append, List.map_map, List.map_take, List.map_drop, List.map_reverse]; rfl))) (by rw [glue_sum]; omega)) (by rw [st_lf, jnC]))) ⟨o4, _, rfl, tx_joinC (by decide) (tA (tT _) (tD _)), by have := join_glue (L.take hr_ ++ L.drop (hr_ + 1)); omega⟩))
  refine q_skip (p_test (p_eqI (i := mn) (j := 4) (e_var rfl) e_int)) (decide_eq_false m4) ?_
  by_cases m5 : mn = 5
  · have gl : (glue (L.take (hr_ + 1) ++ L.drop hr_)).length ≤ 542 := by rw [glue_app, List.length_append]; omega
    exact s_stopR ret_fin (q_ifT (p_test (p_eqI (i := mn) (j := 5) (e_var rfl) e_int)) (decide_eq_true m5) (s_retN (s_ret (e_is (e_joinL (a := Str.ofString "\n") (ys := (L.take (hr_ + 1) ++ L.drop hr_).map sx) e_str (e_l2d (e_is (e_cat (e_sliceTo (j := hr_ + 1) (e_l2d (e_var rfl)) (e_is (p_add (i := ((hr_ : Nat) : Int)) (j := 1) (e_var rfl) e_int) rfl)) (e_sliceFrom (j := hr_) (e_l2d (e_var rfl)) (e_var rfl)) (by simp only [List.length_take, List.length_drop, List.length_map]; omega)) (by simp only [List.map_append, List.map_map, List.map_take, List.map_drop, List.map_reverse]; rfl))) (by rw [glue_sum]; omega)) (by rw [st_lf, jnC]))) ⟨o4, _, rfl, tx_joinC (by decide) (tA (tT _) (tD _)), by have := join_glue (L.take (hr_ + 1) ++ L.drop hr_); omega⟩))
  refine q_skip (p_test (p_eqI (i := mn) (j := 5) (e_var rfl) e_int)) (decide_eq_false m5) ?_
  have gm : (glue ((L.drop hr_).take 2)).length + (glue (L.drop (hr_ + 2))).length = (glue (L.drop hr_)).length := by
    have := glue_td (L.drop hr_) 2
    rw [List.drop_drop] at this
    exact this
  have gl : (glue (L.take hr_ ++ ((L.drop hr_).take 2).reverse ++ L.drop (hr_ + 2))).length ≤ 517 := by
    rw [glue_app, List.length_append, glue_app, List.length_append, glue_rev]
    omega
  exact s_retN (s_ret (e_is (e_joinL (a := Str.ofString "\n") (ys := (L.take hr_ ++ ((L.drop hr_).take 2).reverse ++ L.drop (hr_ + 2)).map sx) e_str (e_l2d (e_is (e_cat (e_cat (e_sliceTo (j := hr_) (e_l2d (e_var rfl)) (e_var rfl)) (e_revL (e_l2d (e_is (e_sliceMid (i := hr_) (j := hr_ + 2) (by omega) (e_l2d (e_var rfl)) (e_var rfl) (e_is (p_add (i := ((hr_ : Nat) : Int)) (j := 2) (e_var rfl) e_int) rfl)) (by rw [Nat.add_sub_cancel_left])))) (by simp only [List.length_take, List.length_drop, List.length_map, List.length_reverse]; omega)) (e_sliceFrom (j := hr_ + 2) (e_l2d (e_var rfl)) (e_is (p_add (i := ((hr_ : Nat) : Int)) (j := 2) (e_var rfl) e_int) rfl)) (by simp only [List.length_append, List.length_take, List.length_drop, List.length_map, List.length_reverse]; omega)) (by simp only [List.map_append, List.map_map, List.map_take, List.map_drop, List.map_reverse]; rfl))) (by rw [glue_sum]; omega)) (by rw [st_lf, jnC]))) ⟨o4, _, rfl, tx_joinC (by decide) (tA (tA (tT _) (fun q hq => tL q (List.mem_of_mem_drop (List.mem_of_mem_take (List.mem_reverse.mp hq))))) (tD _)), by have := join_glue (L.take hr_ ++ ((L.drop hr_).take 2).reverse ++ L.drop (hr_ + 2)); omega⟩
theorem fok_read_fraction (Tp : Top K mg base) : FnOk P w K mg base (L2.CX P w) 3 Tp.f_read_fraction Tp.d_read_fraction ["text"] (spXT K Tp.tabs (RRead Tp.c_TextError)) := by
  have G_fraction := fok_fraction (P := P) (w := w) (base := base) Tp
  have G_write_fraction := fok_write_fraction (P := P) (w := w) (base := base) Tp
  have G_is_decimal := fok_is_decimal (P := P) (w := w) (base := base) Tp
  refine Tp.F_read_fraction.okX sc_read_fraction (fun vs H Q E h => len_X (fun _ _ ⟨_, e, _⟩ => by rw [e]; rfl) h) (fun cdv A outer s H vs Q E hr h => ?_)
  refine ⟨_, (pss_cons (ps_if (pt_cmpR op_gt (pe_callB call_len_str (by rfl) Tp.n_len (by decide +kernel) (pa_cons (pv 0) pa_nil)) (pe_glob (v := .int 1000) (by rfl) Tp.gk_TEXT_LIMIT ⟨_, rfl⟩) (nomark _)) (pss_one (ps_raise rfl (takes_of rfl rfl rfl rfl) (pmk_own PySem.F.excBase_ValueError Tp.xc_TextError Tp.gc_TextError Tp.kc_TextError (raises_own Tp.bc_TextError Tp.tc_TextError) rfl))) pss_nil)
      (pss_cons (ps_asg (pe_partition (pv 0) pe_str) (pg_tup rfl (pgs_cons (pg_name (i := 1) sc_read_fraction.nd rfl (.inl rfl)) (pgs_cons (pg_name (i := 2) sc_read_fraction.nd rfl (.inl rfl)) (pgs_cons (pg_name (i := 3) sc_read_fraction.nd rfl (.inl rfl)) pgs_nil)))))
      (pss_cons (ps_if (pt_cmpR (op_eqD hr.units) (pv 2) pe_str (nomark _)) (pss_one (ps_set (i := 3) sc_read_fraction.nd rfl (.inl rfl) pe_str)) pss_nil)
      (pss_cons (ps_if (PW.pt (pw_or (pt_not (pt_val (pe_call G_is_decimal (hr.mono (by decide)) (by rfl) Tp.g_is_decimal Tp.F_is_decimal.kp Tp.b_is_decimal .nil pass0 (pa_cons (pe_m1 PySem.F.slot_str_removeprefix PySem.F.type_str_removeprefix mt_removeprefix (pv 1) pe_str) pa_nil)))) (pw_or (pt_not (pt_val (pe_call G_is_decimal (hr.mono (by decide)) (by rfl) Tp.g_is_decimal Tp.F_is_decimal.kp Tp.b_is_decimal .nil pass0 (pa_cons (pv 3) pa_nil)))) (pw_or1 (pt_cmpR (op_eqD hr.units) (pv 3) pe_str (nomark _)))))) (pss_one (ps_raise rfl (takes_of rfl rfl rfl rfl) (pmk_own PySem.F.excBase_ValueError Tp.xc_TextError Tp.gc_TextError Tp.kc_TextError (raises_own Tp.bc_TextError Tp.tc_TextError) rfl))) pss_nil)
      (pss_cons (ps_set (i := 4) sc_read_fraction.nd rfl (.inl rfl) (pe_call G_fraction (hr.mono (by decide)) (by rfl) Tp.g_fraction Tp.F_fraction.kp Tp.b_fraction .nil (passes_call (takes_of rfl rfl rfl rfl) (fun _ _ _ _ z => z)) (pa_cons (pe_callTy (call_int_any Tp.n_digits) (by rfl) Tp.n_int (by decide +kernel) (pa_cons (pv 1) pa_nil)) (pa_cons (pe_callTy (call_int_any Tp.n_digits) (by rfl) Tp.n_int (by decide +kernel) (pa_cons (pv 3) pa_nil)) pa_nil))))
      (pss_cons (ps_if (pt_cmpR (op_neD hr.units) (pe_call G_write_fraction (hr.mono (by decide)) (by rfl) Tp.g_write_fraction Tp.F_write_fraction.kp Tp.b_write_fraction .nil pass0 (pa_cons (pv 4) pa_nil)) (pv 0) (nomark _)) (pss_one (ps_raise rfl (takes_of rfl rfl rfl rfl) (pmk_own PySem.F.excBase_ValueError Tp.xc_TextError Tp.gc_TextError Tp.kc_TextError (raises_own Tp.bc_TextError Tp.tc_TextError) rfl))) pss_nil)
      (pss_one (ps_ret (pv 4))))))))), body_XT ?_ h⟩
  refine fun ds r hr I hT hx => ?_
  obtain ⟨l, rfl, ht, hl, hr⟩ := hr
  walk_at "norm"
  have EQ : ∀ {ρ : Rho} {ta : TE} {m k : List Nat} {z : Str}, z = sx k → Tx m → Tx k → PL.E K ta ρ I (.d (.str (sx m))) I → PL.T K (tTest (tOp (rEqD K) ta (tC (.str z)))) ρ I (decide (m = k)) I := fun hz hm hk e => by
    subst hz
    exact t_is (p_test (p_eqD (x := .str (sx _)) (y := .str (sx _)) e e_str (sh_str hm) (sh_str hk))) (eqv_s _ _)
  have t0 : Tx [] := fun c hc => by cases hc
  have t48 : Tx [48] := fun c hc => by rw [List.mem_singleton.mp hc]; decide
  
  by_cases hlong : 1000 < l.length
  · have er : r = .err Tp.c_TextError := by
      rcases hr with ⟨_, e⟩ | ⟨z, _⟩ | ⟨z, _⟩
      · exact e
      · omega
      · omega
    subst er
    exact s_any (q_ifT (p_test (p_gt (i := ((sx l).length : Nat)) (j := 1000) (e_lenS (p_cons (e_var rfl) a_nil) (by rw [sx_len]; exact hl)) e_int)) (decide_eq_true (by rw [sx_len]; omega)) (s_raise' fun G H σ D gh io => hx _ rfl G H io))
  refine q_skip (p_test (p_gt (i := ((sx l).length : Nat)) (j := 1000) (e_lenS (p_cons (e_var rfl) a_nil) (by rw [sx_len]; exact hl)) e_int)) (decide_eq_false (by rw [sx_len]; omega)) ?_
  obtain ⟨st, hst⟩ : ∃ st : List Nat, st = if 47 ∈ l then [47] else [] := ⟨_, rfl⟩
  have tst : Tx st := fun c hc => by
    rw [hst] at hc
    split at hc
    · rw [List.mem_singleton.mp hc]; decide
    · cases hc
  obtain ⟨b0, hb0, hb1⟩ : ∃ b0 : List Nat, Txt.partition (sx l) (sx [47]) = (sx (topP l), sx st, sx b0) ∧ botP l = if 47 ∈ l then b0 else [49] := by
    rcases bot_cases l with ⟨h, e⟩ | ⟨b, e, e2, e3⟩
    · refine ⟨[], ?_, by rw [if_neg h, e]⟩
      rw [pt_none h, cut_none h, hst, if_neg h]
    · have h : 47 ∈ l := by rw [e]; simp
      refine ⟨b, ?_, by rw [if_pos h, e2]⟩
      rw [hst, if_pos h]
      conv => lhs; rw [e]
      exact pt_some e3
  refine s_seq (s_asgG (x := .tuple [.str (sx (topP l)), .str (sx st), .str (sx b0)]) (e_is (e_partS (e_var rfl) e_str (by rfl) (by rw [sx_len]; exact hl)) (by rw [st_slash, hb0])) (g_tup rfl (g_cons g_name (g_cons g_name (g_cons g_name g_nil))))) ?_
  refine s_seq (ρ1 := [some (.d (.str (sx l))), some (.d (.str (sx (topP l)))), some (.d (.str (sx st))), some (.d (.str (sx (botP l)))), none]) (J := I) ?_ ?_
  · by_cases h : 47 ∈ l
    · rw [if_pos h] at hb1 hst
      rw [hb1]
      exact q_ifF (EQ st_nil tst t0 (e_var rfl)) (decide_eq_false (by rw [hst]; exact List.cons_ne_nil _ _)) s_next
    · rw [if_neg h] at hb1 hst
      rw [hb1]
      exact q_ifT (EQ st_nil tst t0 (e_var rfl)) (decide_eq_true hst) (p_asg (e_is e_str (by rw [st_1])))
  have eP : prR l = if ¬ IsDec (bare (topP l)) ∨ ¬ IsDec (botP l) ∨ botP l = [48] then none else if wr (valP l) ≠ l then none else some (valP l) := rfl
  by_cases bad : ¬ IsDec (bare (topP l)) ∨ ¬ IsDec (botP l) ∨ botP l = [48]
  · rw [if_pos bad] at eP
    have er : r = .err Tp.c_TextError := by
      rcases hr with ⟨z, _⟩ | ⟨_, _, e⟩ | ⟨_, v, e, _⟩
      · omega
      · exact e
      · rw [eP] at e; cases e
    subst er
    refine s_any (q_ifT (t_or (t_not (t_B (p_call (R := RIsD) (ds := [.d (.str (sx (bare (topP l))))]) (p_cons (e_is (e_rempre (a := sx (topP l)) (e_var rfl) e_str (by rw [sx_len]; exact Nat.le_trans (top_sub l) hl)) (by rw [st_minus, rp]; rfl)) a_nil) ⟨_, rfl, Nat.le_trans (bare_len _) (Nat.le_trans (top_sub l) hl), tx_bare (tx_top ht), rfl⟩))) fun _ => t_or (t_not (t_B (p_call (R := RIsD) (ds := [.d (.str (sx (botP l)))]) (p_cons (e_var rfl) a_nil) ⟨_, rfl, by have := bot_len (l := l); omega, tx_bot ht, rfl⟩))) fun _ => EQ st_0 (tx_bot ht) t48 (e_var rfl)) ?_ (s_raise' fun G H σ D gh io => hx _ rfl G H io))
    rw [Bool.or_eq_true, Bool.or_eq_true, Bool.not_eq_true', Bool.not_eq_true', decide_eq_false_iff_not, decide_eq_false_iff_not, decide_eq_true_iff]
    exact bad
  rw [if_neg bad] at eP
  refine q_skip (t_or (t_not (t_B (p_call (R := RIsD) (ds := [.d (.str (sx (bare (topP l))))]) (p_cons (e_is (e_rempre (a := sx (topP l)) (e_var rfl) e_str (by rw [sx_len]; exact Nat.le_trans (top_sub l) hl)) (by rw [st_minus, rp]; rfl)) a_nil) ⟨_, rfl, Nat.le_trans (bare_len _) (Nat.le_trans (top_sub l) hl), tx_bare (tx_top ht), rfl⟩))) fun _ => t_or (t_not (t_B (p_call (R := RIsD) (ds := [.d (.str (sx (botP l)))]) (p_cons (e_var rfl) a_nil) ⟨_, rfl, by have := bot_len (l := l); omega, tx_bot ht, rfl⟩))) fun _ => EQ st_0 (tx_bot ht) t48 (e_var rfl)) (Bool.eq_false_iff.mpr fun z => bad (by
    rw [Bool.or_eq_true, Bool.or_eq_true, Bool.not_eq_true', Bool.not_eq_true', decide_eq_false_iff_not, decide_eq_false_iff_not, decide_eq_true_iff] at z
    exact z)) ?_
  have hda : IsDec (bare (topP l)) := Classical.byContradiction fun z => bad (.inl z)
  have hdb : IsDec (botP l) := Classical.byContradiction fun z => bad (.inr (.inl z))
  have h48 : botP l ≠ [48] := fun z => bad (.inr (.inr z))
  have ll : l.length ≤ 1000 := by omega
  have tl := top_sub l
  have bl := bot_len (l := l)
  have bal := bare_len (topP l)
  obtain ⟨i1, i2⟩ := rd_text hda (by omega)
  obtain ⟨j1, j2⟩ := dec_text hdb (by omega)
  have pos : 0 < digitsVal (botP l) := by
    have hvb := val_dg hdb
    rcases Nat.eq_zero_or_pos (digitsVal (botP l)) with z | z
    · exfalso
      rw [z] at hvb
      exact h48 (by rw [← hvb]; exact dg_small (by decide))
    · exact z
  have up : ∀ k, k ≤ 1001 → 10 ^ k ≤ 10 ^ 1001 := fun k hk => Nat.pow_le_pow_right (by decide) hk
  have n1 : (rd (topP l)).natAbs < 10 ^ 1001 := by
    rw [rd_abs hda]
    exact Nat.lt_of_lt_of_le (val_lt hda.2.1) (up _ (by omega))
  have n2 : ((digitsVal (botP l) : Nat) : Int).natAbs < 10 ^ 1001 := by
    rw [Int.natAbs_natCast]
    exact Nat.lt_of_lt_of_le (val_lt hdb.2.1) (up _ (by omega))
  have up2 : 10 ^ 1001 ≤ 10 ^ 1100 := Nat.pow_le_pow_right (by decide) (by decide)
  obtain ⟨v1, v2⟩ := lf_le (n := rd (topP l)) (m := ((digitsVal (botP l) : Nat) : Int)) (by omega)
  obtain ⟨v, hv⟩ : ∃ v, v = valP l := ⟨_, rfl⟩
  have nv : Nrm v := by rw [hv]; exact lf_nrm (by omega)
  refine q_asg (d := .d (fr v)) (e_is (e_callX (R := RFrac Tp.c_ZeroDenominator) (ds := [.i (rd (topP l)), .i ((digitsVal (botP l) : Nat) : Int)]) (p_cons (e_intA (p_cons (e_var rfl) a_nil) i1 (len_any i2) (by rw [sx_len]; omega)) (p_cons (e_intA (p_cons (e_var rfl) a_nil) j1 (len_any j2) (by rw [sx_len]; omega)) a_nil)) ⟨_, _, rfl, lt_bits n1 (by decide), lt_bits n2 (by decide), .inl ⟨by omega, rfl⟩⟩) (by rw [hv]; rfl)) ?_
  have twr : Tx (wr v) := fun c hc => by
    unfold wr at hc
    rcases List.mem_append.mp hc with hc | hc
    · unfold sg at hc
      split at hc
      · rcases List.mem_cons.mp hc with rfl | hc
        · decide
        · exact tx_dg _ c hc
      · exact tx_dg _ c hc
    · split at hc
      · cases hc
      · rcases List.mem_cons.mp hc with rfl | hc
        · decide
        · exact tx_dg _ c hc
  rw [← hv] at eP
  by_cases c : wr v = l
  · rw [if_neg (fun z => z c)] at eP
    have er : r = .ok (.d (fr v)) := by
      rcases hr with ⟨z, _⟩ | ⟨_, e, _⟩ | ⟨_, w, e, e2⟩
      · omega
      · rw [eP] at e; cases e
      · rw [eP] at e
        rw [e2, Option.some.inj e]
    subst er
    exact q_skip (t_is (p_test (p_neD (x := .str (sx (wr v))) (y := .str (sx l)) (p_call (R := RWr) (ds := [.d (fr v)]) (p_cons (e_var rfl) a_nil) ⟨v, rfl, nv.1, Nat.lt_of_le_of_lt (by rw [hv]; exact v1) (Nat.lt_of_lt_of_le n1 up2), Nat.lt_of_le_of_lt (by rw [hv]; exact v2) (Nat.lt_of_lt_of_le n2 up2), rfl⟩) (e_var rfl) (sh_str twr) (sh_str ht))) (by rw [eqv_s])) (by rw [decide_eq_true c]; rfl) (p_ret (e_var rfl))
  · rw [if_pos c] at eP
    have er : r = .err Tp.c_TextError := by
      rcases hr with ⟨z, _⟩ | ⟨_, _, e⟩ | ⟨_, w, e, _⟩
      · omega
      · exact e
      · rw [eP] at e; cases e
    subst er
    exact s_any (q_ifT (t_is (p_test (p_neD (x := .str (sx (wr v))) (y := .str (sx l)) (p_call (R := RWr) (ds := [.d (fr v)]) (p_cons (e_var rfl) a_nil) ⟨v, rfl, nv.1, Nat.lt_of_le_of_lt (by rw [hv]; exact v1) (Nat.lt_of_lt_of_le n1 up2), Nat.lt_of_le_of_lt (by rw [hv]; exact v2) (Nat.lt_of_lt_of_le n2 up2), rfl⟩) (e_var rfl) (sh_str twr) (sh_str ht))) (by rw [eqv_s])) (by rw [decide_eq_false c]; rfl) (s_raise' fun G H σ D gh io => hx _ rfl G H io))
theorem fok_write_vector (Tp : Top K mg base) : FnOk P w K mg base CX0 3 Tp.f_write_vector Tp.d_write_vector ["vector"] (spP K RWv) := by
  have G_write_fraction := fok_write_fraction (P := P) (w := w) (base := base) Tp
  refine Tp.F_write_vector.ok sc_write_vector (fun vs H Q E h => len_P (fun _ _ ⟨_, _, e, _⟩ => by rw [e]; rfl) h) (fun cdv A outer s H vs Q E hr h => ?_)
  refine ⟨_, (pss_one (ps_ret (pe_joined (.cons (pe_fmt (pe_call G_write_fraction (hr.mono (by decide)) (by rfl) Tp.g_write_fraction Tp.F_write_fraction.kp Tp.b_write_fraction .nil pass0 (pa_cons (pe_ix (r := rIxT K) ix_tup (pv 0) pe_int (fun _ _ => rfl)) pa_nil))) (.cons pe_str (.cons (pe_fmt (pe_call G_write_fraction (hr.mono (by decide)) (by rfl) Tp.g_write_fraction Tp.F_write_fraction.kp Tp.b_write_fraction .nil pass0 (pa_cons (pe_ix (r := rIxT K) ix_tup (pv 0) pe_int (fun _ _ => rfl)) pa_nil))) .nil)))))), body_P ?_ h⟩
  refine fun ds d r I => ?_
  obtain ⟨a, b, rfl, a0, a1, a2, b0, b1, b2, rfl⟩ := r
  walk_at "norm"
  have up : (10 : Nat) ^ 1000 ≤ 10 ^ 1100 := Nat.pow_le_pow_right (by decide) (by decide)
  have la := wr_len a1 a2
  have lb := wr_len b1 b2
  exact p_ret (e_is (e_fj (xs := [wr a, [32], wr b]) ⟨(e_fmtS (p_call (R := RWr) (ds := [.d (fr a)]) (p_cons (p_i0 (e_var rfl)) a_nil) ⟨a, rfl, a0, Nat.lt_of_lt_of_le a1 up, Nat.lt_of_lt_of_le a2 up, rfl⟩) (Nat.le_trans (wr_len a1 a2) (by decide))), e_is e_str (by rw [st_sp1]), (e_fmtS (p_call (R := RWr) (ds := [.d (fr b)]) (p_cons (p_i1 (e_var rfl)) a_nil) ⟨b, rfl, b0, Nat.lt_of_lt_of_le b1 up, Nat.lt_of_lt_of_le b2 up, rfl⟩) (Nat.le_trans (wr_len b1 b2) (by decide))), trivial⟩ (by simp; omega)) (by simp))
theorem fok_read_integer (Tp : Top K mg base) : FnOk P w K mg base (L2.CX P w) 3 Tp.f_read_integer Tp.d_read_integer ["word"] (spXT K Tp.tabs (RRi Tp.c_TextError)) := by
  have G_is_decimal := fok_is_decimal (P := P) (w := w) (base := base) Tp
  refine Tp.F_read_integer.okX sc_read_integer (fun vs H Q E h => len_X (fun _ _ ⟨_, e, _⟩ => by rw [e]; rfl) h) (fun cdv A outer s H vs Q E hr h => ?_)
  refine ⟨_, (pss_cons (ps_if (PW.pt (pw_or (pt_cmpR op_gt (pe_callB call_len_str (by rfl) Tp.n_len (by decide +kernel) (pa_cons (pv 0) pa_nil)) (pe_glob (v := .int 9) (by rfl) Tp.gk_FIGURE_LIMIT ⟨_, rfl⟩) (nomark _)) (pw_or1 (pt_not (pt_val (pe_call G_is_decimal (hr.mono (by decide)) (by rfl) Tp.g_is_decimal Tp.F_is_decimal.kp Tp.b_is_decimal .nil pass0 (pa_cons (pv 0) pa_nil))))))) (pss_one (ps_raise rfl (takes_of rfl rfl rfl rfl) (pmk_own PySem.F.excBase_ValueError Tp.xc_TextError Tp.gc_TextError Tp.kc_TextError (raises_own Tp.bc_TextError Tp.tc_TextError) rfl))) pss_nil)
      (pss_one (ps_ret (pe_callTy (call_int_any Tp.n_digits) (by rfl) Tp.n_int (by decide +kernel) (pa_cons (pv 0) pa_nil))))), body_XT ?_ h⟩
  refine fun ds r hr I hT hx => ?_
  obtain ⟨l, rfl, ht, hl, hr⟩ := hr
  walk_at "norm"
  rcases hr with ⟨hb, rfl⟩ | ⟨h9, hd, rfl⟩
  · refine s_any (q_ifT (t_or (p_test (p_gt (i := ((sx l).length : Nat)) (j := 9) (e_lenS (p_cons (e_var rfl) a_nil) (by rw [sx_len]; exact hl)) e_int)) fun _ => (t_not (t_B (p_call (R := RIsD) (ds := [.d (.str (sx l))]) (p_cons (e_var rfl) a_nil) ⟨l, rfl, hl, ht, rfl⟩)))) ?_ (s_raise' fun G H σ D gh io => hx _ rfl G H io))
    rw [Bool.or_eq_true, decide_eq_true_iff, Bool.not_eq_true', decide_eq_false_iff_not, sx_len]
    by_cases c : l.length ≤ 9
    · exact .inr fun z => hb ⟨c, z⟩
    · exact .inl (by omega)
  refine q_skip (t_or (p_test (p_gt (i := ((sx l).length : Nat)) (j := 9) (e_lenS (p_cons (e_var rfl) a_nil) (by rw [sx_len]; exact hl)) e_int)) fun _ => (t_not (t_B (p_call (R := RIsD) (ds := [.d (.str (sx l))]) (p_cons (e_var rfl) a_nil) ⟨l, rfl, hl, ht, rfl⟩)))) ?_ ?_
  · rw [Bool.or_eq_false_iff, decide_eq_false_iff_not, Bool.not_eq_false', decide_eq_true_iff, sx_len]
    exact ⟨by omega, hd⟩
  obtain ⟨j1, j2⟩ := dec_text hd (by omega)
  exact p_ret (e_intA (p_cons (e_var rfl) a_nil) j1 (len_any j2) (by rw [sx_len]; exact hl))
theorem fok_law_part (Tp : Top K mg base) : FnOk P w K mg base CX0 3 Tp.f_law_part Tp.d_law_part ["d", "most"] (spW K RPart) := by
  have G_law_f := fok_law_f (P := P) (w := w) (base := base) Tp
  have G_law_signed := fok_law_signed (P := P) (w := w) (base := base) Tp
  have G_law_take := fok_law_take (P := P) (w := w) (base := base) Tp
  refine Tp.F_law_part.ok sc_law_part (fun vs H Q E h => len_W (fun _ _ _ _ ⟨_, e, _⟩ => by rw [e]; rfl) h) (fun cdv A outer s H vs Q E hr h => ?_)
  refine ⟨_, (pss_one (ps_ret (pe_call G_law_f (hr.mono (by decide)) (by rfl) Tp.g_law_f Tp.F_law_f.kp Tp.b_law_f .nil pass0 (pa_cons (pe_call G_law_signed (hr.mono (by decide)) (by rfl) Tp.g_law_signed Tp.F_law_signed.kp Tp.b_law_signed .nil pass0 (pa_cons (pv 0) (pa_cons (pe_op op_mulW (pv 1) pe_int) pa_nil))) (pa_cons (pe_op op_add pe_int (pe_call G_law_take (hr.mono (by decide)) (by rfl) Tp.g_law_take Tp.F_law_take.kp Tp.b_law_take .nil pass0 (pa_cons (pv 0) (pa_cons pe_int pa_nil)))) pa_nil))))), body_W ?_ h⟩
  refine fun ds C d C' r p J hf => ?_
  obtain ⟨m, rfl, ok, hm, hz, rfl, rfl⟩ := r
  walk_at "norm"
  have z2 : (m * 2).natAbs < 2 ^ 7002 := sz_mul (n := 2) hz (by decide)
  obtain ⟨o1, b1, b2⟩ := take_ok (C := C) (m := 2 * (m * 2) + 1) ok (by omega)
  obtain ⟨o2, b3, b4⟩ := take_ok (C := (take C (2 * (m * 2) + 1)).2) (m := 3) o1 (by omega)
  refine s_ret (e_call (R := RF) (a_cons (e_draw (R := RSigned) (ds := [.i (m * 2)]) (C := C) (p_cons (e_var rfl) (p_cons (p_mul (e_var rfl) e_int (mulW (m := 7000) (n := 2) hz (by decide) (by decide))) a_nil)) ⟨_, rfl, ok, by omega, sz_le z2 (by decide), rfl, rfl⟩ hf)
    (a_cons (e_add e_int (e_draw (R := RTake) (ds := [.i 3]) (p_cons (e_var rfl) (p_cons e_int a_nil)) ⟨_, rfl, o1, by decide, Nat.lt_of_lt_of_le (show (3 : Int).natAbs < 2 ^ 2 by decide) (Nat.pow_le_pow_right (by decide) (by decide)), rfl, rfl⟩ hf)) a_nil)) ?_)
  refine RF.mk (m := 7010) (n := 7010) (by omega) ?_ ?_ (by decide) (by decide)
  · have : (2 : Nat) ^ 7010 = 2 ^ 7002 * 256 := by decide +kernel
    omega
  · refine Nat.lt_of_lt_of_le (show _ < 2 ^ 3 by omega) (Nat.pow_le_pow_right (by decide) (by decide))
theorem fok_read_vector (Tp : Top K mg base) : FnOk P w K mg base (L2.CX P w) 4 Tp.f_read_vector Tp.d_read_vector ["words"] (spXT K Tp.tabs (RRv Tp.c_TextError)) := by
  have G_read_fraction := fok_read_fraction (P := P) (w := w) (base := base) Tp
  refine Tp.F_read_vector.okX sc_read_vector (fun vs H Q E h => len_X (fun _ _ ⟨_, _, e, _⟩ => by rw [e]; rfl) h) (fun cdv A outer s H vs Q E hr h => ?_)
  refine ⟨_, (pss_one (ps_ret (pe_tup (pa_cons (pe_call G_read_fraction (hr.mono (by decide)) (by rfl) Tp.g_read_fraction Tp.F_read_fraction.kp Tp.b_read_fraction .nil (passes_call (takes_of rfl rfl rfl rfl) (fun _ _ _ _ z => z)) (pa_cons (pe_ix (r := rIxL K) ix_list (pv 0) pe_int (fun _ _ => rfl)) pa_nil)) (pa_cons (pe_call G_read_fraction (hr.mono (by decide)) (by rfl) Tp.g_read_fraction Tp.F_read_fraction.kp Tp.b_read_fraction .nil (passes_call (takes_of rfl rfl rfl rfl) (fun _ _ _ _ z => z)) (pa_cons (pe_ix (r := rIxL K) ix_list (pv 0) pe_int (fun _ _ => rfl)) pa_nil)) pa_nil))))), body_XT ?_ h⟩
  refine fun ds r hr I hT hx => ?_
  obtain ⟨a, b, rfl, ta, tb, la, lb, hr⟩ := hr
  walk_at "norm"
  have ER : ∀ l : List Nat, Tx l → l.length ≤ 100000 → rdF l = none → RRead Tp.c_TextError [.d (.str (sx l))] (.err Tp.c_TextError) := fun l tl ll h => by
    refine ⟨l, rfl, tl, ll, ?_⟩
    unfold rdF at h
    by_cases c : 1000 < l.length
    · exact .inl ⟨c, rfl⟩
    · rw [if_neg c] at h
      exact .inr (.inl ⟨by omega, h, rfl⟩)
  have OK : ∀ (l : List Nat) (v : F), Tx l → l.length ≤ 100000 → rdF l = some v → RRead Tp.c_TextError [.d (.str (sx l))] (.ok (.d (fr v))) := fun l v tl ll h => by
    refine ⟨l, rfl, tl, ll, ?_⟩
    unfold rdF at h
    by_cases c : 1000 < l.length
    · rw [if_pos c] at h; cases h
    · rw [if_neg c] at h
      exact .inr (.inr ⟨by omega, v, h, rfl⟩)
  rcases hr with ⟨hb, rfl⟩ | ⟨v, w, hv, hw, rfl⟩
  · cases ea : rdF a with
    | none =>
      exact s_retE (L := .no) (e_tup (ds := [.d .none, .d .none]) (xs := [.none, .none]) (a_cons (e_callE (tabs := Tp.tabs) (R := RRead Tp.c_TextError) (ds := [.d (.str (sx a))]) (d := .d .none) (L := .no) (p_cons (e_ixL (j := 0) (x := .str (sx a)) (e_l2d (e_var rfl)) e_int rfl) a_nil) (ER a ta la ea) fun G H io => hx _ rfl G H io) a_no) (.cons (.cons .nil)) (show 2 ≤ 100000 by decide)) fun _ _ z => z
    | some v =>
      have eb : rdF b = none := by
        rcases hb with z | z
        · rw [ea] at z; cases z
        · exact z
      exact s_retE (L := .no) (e_tup (ds := [.d (fr v), .d .none]) (xs := [fr v, .none]) (a_cons (e_callX (tabs := Tp.tabs) (R := RRead Tp.c_TextError) (ds := [.d (.str (sx a))]) (d := .d (fr v)) (p_cons (e_ixL (j := 0) (x := .str (sx a)) (e_l2d (e_var rfl)) e_int rfl) a_nil) (OK a v ta la ea)) (a_cons (e_callE (tabs := Tp.tabs) (R := RRead Tp.c_TextError) (ds := [.d (.str (sx b))]) (d := .d .none) (L := .no) (p_cons (e_ixL (j := 1) (x := .str (sx b)) (e_l2d (e_var rfl)) e_int rfl) a_nil) (ER b tb lb eb) fun G H io => hx _ rfl G H io) a_no)) (.cons (.cons .nil)) (show 2 ≤ 100000 by decide)) fun _ _ z => z
  exact p_ret (p_tup2 (p_cons (e_callX (tabs := Tp.tabs) (R := RRead Tp.c_TextError) (ds := [.d (.str (sx a))]) (d := .d (fr v)) (p_cons (e_ixL (j := 0) (x := .str (sx a)) (e_l2d (e_var rfl)) e_int rfl) a_nil) (OK a v ta la hv)) (p_cons (e_callX (tabs := Tp.tabs) (R := RRead Tp.c_TextError) (ds := [.d (.str (sx b))]) (d := .d (fr w)) (p_cons (e_ixL (j := 1) (x := .str (sx b)) (e_l2d (e_var rfl)) e_int rfl) a_nil) (OK b w tb lb hw)) a_nil)))
theorem fok_lines_of_step (Tp : Top K mg base) : FnOk P w K mg base CX0 4 Tp.f_lines_of_step Tp.d_lines_of_step ["step"] (spP K RLs) := by
  have G_write_vector := fok_write_vector (P := P) (w := w) (base := base) Tp
  have G_write_name := fok_write_name (P := P) (w := w) (base := base) Tp
  have G_write_fraction := fok_write_fraction (P := P) (w := w) (base := base) Tp
  refine Tp.F_lines_of_step.ok sc_lines_of_step (fun vs H Q E h => len_P (fun _ _ ⟨_, e, _⟩ => by rw [e]; rfl) h) (fun cdv A outer s H vs Q E hr h => ?_)
  refine ⟨_, (pss_cons (ps_asg (pv 0) (pg_tup rfl (pgs_cons (pg_name (i := 1) sc_lines_of_step.nd rfl (.inl rfl)) (pgs_cons (pg_name (i := 2) sc_lines_of_step.nd rfl (.inl rfl)) (pgs_cons (pg_name (i := 3) sc_lines_of_step.nd rfl (.inl rfl)) pgs_nil)))))
      (pss_cons (ps_set (i := 4) sc_lines_of_step.nd rfl (.inl rfl) (pe_lst (pa_cons pe_str pa_nil)))
      (pss_cons (ps_expr (pe_bm PySem.F.plainAttrs_list PySem.F.slot_list_extend PySem.F.type_list_extend mt_extend (pv 4) (pa_cons (pe_lc (own := [("name", 5), ("vector", 6)]) (g := (gTup K 2 (gCons (gName 5) (gCons (gName 6) gNil)))) (tt := tYes) rfl sc_lines_of_step.nd (pi_tup (pv 1)) (blkOk_by (N := ["step", "pushes", "speeds", "forces", "lines", "name", "vector", "amount"]) (sc := defScope s_lines_of_step) (by decide +kernel)) (fun _ _ _ _ _ => (pg_tup rfl (pgs_cons (pg_name (i := 5) sc_lines_of_step.nd rfl (Or.inl rfl)) (pgs_cons (pg_name (i := 6) sc_lines_of_step.nd rfl (Or.inl rfl)) pgs_nil)))) (fun _ _ _ _ _ => pts_nil) (fun _ _ _ _ _ => (pe_joined (.cons pe_str (.cons (pe_fmt (pv 5)) (.cons pe_str (.cons (pe_fmt (pe_call G_write_vector (hr.mono (by decide)) (by rfl) Tp.g_write_vector Tp.F_write_vector.kp Tp.b_write_vector .nil pass0 (pa_cons (pv 6) pa_nil))) .nil))))))) pa_nil)))
      (pss_cons (ps_expr (pe_bm PySem.F.plainAttrs_list PySem.F.slot_list_extend PySem.F.type_list_extend mt_extend (pv 4) (pa_cons (pe_lc (own := [("vector", 6)]) (g := gName 6) (tt := tYes) rfl sc_lines_of_step.nd (pi_tup (pv 2)) (blkOk_by (N := ["step", "pushes", "speeds", "forces", "lines", "name", "vector", "amount"]) (sc := defScope s_lines_of_step) (by decide +kernel)) (fun _ _ _ _ _ => pg_name (i := 6) sc_lines_of_step.nd rfl (Or.inl rfl)) (fun _ _ _ _ _ => pts_nil) (fun _ _ _ _ _ => (pe_joined (.cons pe_str (.cons (pe_fmt (pe_call G_write_vector (hr.mono (by decide)) (by rfl) Tp.g_write_vector Tp.F_write_vector.kp Tp.b_write_vector .nil pass0 (pa_cons (pv 6) pa_nil))) .nil))))) pa_nil)))
      (pss_cons (ps_expr (pe_bm PySem.F.plainAttrs_list PySem.F.slot_list_extend PySem.F.type_list_extend mt_extend (pv 4) (pa_cons (pe_lc (own := [("name", 5), ("amount", 7)]) (g := (gTup K 2 (gCons (gName 5) (gCons (gName 7) gNil)))) (tt := tYes) rfl sc_lines_of_step.nd (pi_tup (pv 3)) (blkOk_by (N := ["step", "pushes", "speeds", "forces", "lines", "name", "vector", "amount"]) (sc := defScope s_lines_of_step) (by decide +kernel)) (fun _ _ _ _ _ => (pg_tup rfl (pgs_cons (pg_name (i := 5) sc_lines_of_step.nd rfl (Or.inl rfl)) (pgs_cons (pg_name (i := 7) sc_lines_of_step.nd rfl (Or.inl rfl)) pgs_nil)))) (fun _ _ _ _ _ => pts_nil) (fun _ _ _ _ _ => (pe_joined (.cons pe_str (.cons (pe_fmt (pe_call G_write_name (hr.mono (by decide)) (by rfl) Tp.g_write_name Tp.F_write_name.kp Tp.b_write_name .nil pass0 (pa_cons (pv 5) pa_nil))) (.cons pe_str (.cons (pe_fmt (pe_call G_write_fraction (hr.mono (by decide)) (by rfl) Tp.g_write_fraction Tp.F_write_fraction.kp Tp.b_write_fraction .nil pass0 (pa_cons (pv 7) pa_nil))) .nil))))))) pa_nil)))
      (pss_one (ps_ret (pv 4)))))))), body_P ?_ h⟩
  refine fun ds d r I => ?_
  obtain ⟨s, rfl, hs, hn, rfl⟩ := r
  walk_at "norm"
  have up : (10 : Nat) ^ 560 ≤ 10 ^ 1000 := Nat.pow_le_pow_right (by decide) (by decide)
  have up2 : (10 : Nat) ^ 560 ≤ 10 ^ 1100 := Nat.pow_le_pow_right (by decide) (by decide)
  have hn2 := hn
  unfold stLines at hn2
  simp only [List.length_cons, List.length_append, List.length_map] at hn2
  refine s_seq (s_asgG (e_var rfl) (g_tup rfl (g_cons g_name (g_cons g_name (g_cons g_name g_nil))))) ?_
  refine s_newLA (ds := [.d (.str (sx wStep))]) (xs := [.str (sx wStep)]) (a_cons (e_is e_str (by rw [st_step])) a_nil) (.cons .nil) (show 1 ≤ 100000 by decide) fun q hq => ?_
  refine s_seq (s_ext (es := s.ps.map fun v => PyData.str (sx (pushL v))) (e_lcWl (es := s.ps.map fun v => PyData.str (sx (pushL v))) (iw_t (ds := s.ps.map pushD) (e_var rfl)) (by rw [List.length_map, List.length_map]) (by rw [List.length_map]; omega) fun i y hi hy => by
    obtain ⟨v, hv, rfl⟩ := getElem?_of_map hy
    have hm := List.mem_of_getElem? hv
    rw [at0_map hv]
    have hh := hs.hp v hm
    have l1 := vT_len hh.2.1 hh.2.2
    have l2 := dg_len (show v.1 < 10 ^ 10 by have := hh.1; omega) (by decide)
    exact ⟨_, w_tup rfl (w_cons (w_name List.mem_cons_self) (w_cons (w_name (List.mem_cons_of_mem _ List.mem_cons_self)) w_nil)), fun I' => e_is (e_fj (xs := [wPush ++ [32], dg v.1, [32], vT v.2]) ⟨e_is e_str (by rw [st_pushS]), e_is (e_fmtI (i := ((v.1 : Nat) : Int)) (e_var rfl) (few_bits (k := 10) (by have := hh.1; omega) (by decide))) (by rw [sx_nat]), e_is e_str (by rw [st_sp1]), e_fmtS (p_call (R := RWv) (ds := [.d (vD v.2)]) (p_cons (e_var rfl) a_nil) ⟨v.2.1, v.2.2, rfl, hh.2.1.p, Nat.lt_of_lt_of_le hh.2.1.n up, Nat.lt_of_lt_of_le hh.2.1.d up, hh.2.2.p, Nat.lt_of_lt_of_le hh.2.2.n up, Nat.lt_of_lt_of_le hh.2.2.d up, rfl⟩) (by omega), trivial⟩ (by simp; omega)) (by unfold pushL; simp)⟩) rfl (by simp; omega) hq) ?_
  refine s_seq (s_ext (es := s.ss.map fun v => PyData.str (sx (speedL v))) (e_lcWl (es := s.ss.map fun v => PyData.str (sx (speedL v))) (iw_t (ds := s.ss.map vD) (e_var rfl)) (by rw [List.length_map, List.length_map]) (by rw [List.length_map]; omega) fun i y hi hy => by
    obtain ⟨v, hv, rfl⟩ := getElem?_of_map hy
    have hm := List.mem_of_getElem? hv
    rw [at0_map hv]
    have hh := hs.hs v hm
    have l1 := vT_len hh.1 hh.2
    exact ⟨_, w_name List.mem_cons_self, fun I' => e_is (e_fj (xs := [wSpeed ++ [32], vT v]) ⟨e_is e_str (by rw [st_speedS]), e_fmtS (p_call (R := RWv) (ds := [.d (vD v)]) (p_cons (e_var rfl) a_nil) ⟨v.1, v.2, rfl, hh.1.p, Nat.lt_of_lt_of_le hh.1.n up, Nat.lt_of_lt_of_le hh.1.d up, hh.2.p, Nat.lt_of_lt_of_le hh.2.n up, Nat.lt_of_lt_of_le hh.2.d up, rfl⟩) (by omega), trivial⟩ (by simp; omega)) (by unfold speedL; simp)⟩) rfl (by simp; omega) hq) ?_
  refine s_seq (s_ext (es := s.fs.map fun v => PyData.str (sx (forceL v))) (e_lcWl (es := s.fs.map fun v => PyData.str (sx (forceL v))) (iw_t (ds := s.fs.map forceD) (e_var rfl)) (by rw [List.length_map, List.length_map]) (by rw [List.length_map]; omega) fun i y hi hy => by
    obtain ⟨v, hv, rfl⟩ := getElem?_of_map hy
    have hm := List.mem_of_getElem? hv
    rw [at0_map hv]
    have hh := hs.hf v hm
    have l1 := wr_len2 hh.2.2.2.2
    have l2 := nmT_len hh.1 hh.2.1 hh.2.2.1 hh.2.2.2.1
    exact ⟨_, w_tup rfl (w_cons (w_name List.mem_cons_self) (w_cons (w_name (List.mem_cons_of_mem _ List.mem_cons_self)) w_nil)), fun I' => e_is (e_fj (xs := [wForce ++ [32], nmT v.1, [32], wr v.2]) ⟨e_is e_str (by rw [st_forceS]), e_fmtS (p_call (R := RWn) (ds := [.d (nmD v.1)]) (p_cons (e_var rfl) a_nil) ⟨v.1, rfl, by rcases hh.1 with z | z <;> rw [z] <;> decide, by have := hh.2.1; omega, by have := hh.2.2.1; omega, by have := hh.2.2.2.1; omega, rfl⟩) (by omega), e_is e_str (by rw [st_sp1]), e_fmtS (p_call (R := RWr) (ds := [.d (fr v.2)]) (p_cons (e_var rfl) a_nil) ⟨v.2, rfl, hh.2.2.2.2.p, Nat.lt_of_lt_of_le hh.2.2.2.2.n up2, Nat.lt_of_lt_of_le hh.2.2.2.2.d up2, rfl⟩) (by omega), trivial⟩ (by simp; omega)) (by unfold forceL nmT; simp)⟩) rfl (by simp; omega) hq) ?_
  have e5 : [PyData.str (sx wStep)] ++ (s.ps.map fun v => PyData.str (sx (pushL v))) ++ (s.ss.map fun v => PyData.str (sx (speedL v))) ++ (s.fs.map fun v => PyData.str (sx (forceL v))) = strL (stLines s) := by
    unfold stLines
    simp [Function.comp_def]
  rw [e5]
  exact s_freezeL (i := 4) rfl hq (p_ret (e_var rfl))
theorem fok_read_force (Tp : Top K mg base) : FnOk P w K mg base (L2.CX P w) 4 Tp.f_read_force Tp.d_read_force ["words"] (spXT K Tp.tabs (RRo Tp.c_TextError)) := by
  have G_read_fraction := fok_read_fraction (P := P) (w := w) (base := base) Tp
  have G_read_integer := fok_read_integer (P := P) (w := w) (base := base) Tp
  refine Tp.F_read_force.okX sc_read_force (fun vs H Q E h => len_X (fun _ _ ⟨_, _, _, _, _, e, _⟩ => by rw [e]; rfl) h) (fun cdv A outer s H vs Q E hr h => ?_)
  refine ⟨_, (pss_cons (ps_asg (pv 0) (pg_lst rfl (pgs_cons (pg_name (i := 1) sc_read_force.nd rfl (.inl rfl)) (pgs_cons (pg_name (i := 2) sc_read_force.nd rfl (.inl rfl)) (pgs_cons (pg_name (i := 3) sc_read_force.nd rfl (.inl rfl)) (pgs_cons (pg_name (i := 4) sc_read_force.nd rfl (.inl rfl)) (pgs_cons (pg_name (i := 5) sc_read_force.nd rfl (.inl rfl)) pgs_nil)))))))
      (pss_cons (ps_if (pt_cmpR (op_notInTD (hu65 hr)) (pv 1) (pe_glob (v := .ref Tp.k_FORCE_KINDS) (by rfl) Tp.gk_FORCE_KINDS rfl) rfl) (pss_one (ps_raise rfl (takes_of rfl rfl rfl rfl) (pmk_own PySem.F.excBase_ValueError Tp.xc_TextError Tp.gc_TextError Tp.kc_TextError (raises_own Tp.bc_TextError Tp.tc_TextError) rfl))) pss_nil)
      (pss_one (ps_ret (pe_tup (pa_cons (pe_tup (pa_cons (pv 1) (pa_cons (pe_call G_read_integer (hr.mono (by decide)) (by rfl) Tp.g_read_integer Tp.F_read_integer.kp Tp.b_read_integer .nil (passes_call (takes_of rfl rfl rfl rfl) (fun _ _ _ _ z => z)) (pa_cons (pv 2) pa_nil)) (pa_cons (pe_call G_read_integer (hr.mono (by decide)) (by rfl) Tp.g_read_integer Tp.F_read_integer.kp Tp.b_read_integer .nil (passes_call (takes_of rfl rfl rfl rfl) (fun _ _ _ _ z => z)) (pa_cons (pv 3) pa_nil)) (pa_cons (pe_call G_read_integer (hr.mono (by decide)) (by rfl) Tp.g_read_integer Tp.F_read_integer.kp Tp.b_read_integer .nil (passes_call (takes_of rfl rfl rfl rfl) (fun _ _ _ _ z => z)) (pa_cons (pv 4) pa_nil)) pa_nil))))) (pa_cons (pe_call G_read_fraction (hr.mono (by decide)) (by rfl) Tp.g_read_fraction Tp.F_read_fraction.kp Tp.b_read_fraction .nil (passes_call (takes_of rfl rfl rfl rfl) (fun _ _ _ _ z => z)) (pa_cons (pv 5) pa_nil)) pa_nil))))))), body_XT ?_ h⟩
  refine fun ds r hr I hT hx => ?_
  obtain ⟨k, a, b, s, m, rfl, ⟨tk, ta, tb, ts, tm⟩, ⟨lk, la, lb, ls, lm⟩, hr⟩ := hr
  walk_at "norm"
  have ER : ∀ l : List Nat, Tx l → l.length ≤ 100000 → rdF l = none → RRead Tp.c_TextError [.d (.str (sx l))] (.err Tp.c_TextError) := fun l tl ll h => by
    refine ⟨l, rfl, tl, ll, ?_⟩
    unfold rdF at h
    by_cases c : 1000 < l.length
    · exact .inl ⟨c, rfl⟩
    · rw [if_neg c] at h
      exact .inr (.inl ⟨by omega, h, rfl⟩)
  have OK : ∀ (l : List Nat) (v : F), Tx l → l.length ≤ 100000 → rdF l = some v → RRead Tp.c_TextError [.d (.str (sx l))] (.ok (.d (fr v))) := fun l v tl ll h => by
    refine ⟨l, rfl, tl, ll, ?_⟩
    unfold rdF at h
    by_cases c : 1000 < l.length
    · rw [if_pos c] at h; cases h
    · rw [if_neg c] at h
      exact .inr (.inr ⟨by omega, v, h, rfl⟩)
  have NO : ∀ l : List Nat, Tx l → l.length ≤ 100000 → rdN l = none → RRi Tp.c_TextError [.d (.str (sx l))] (.err Tp.c_TextError) := fun l tl ll h => by
    refine ⟨l, rfl, tl, ll, .inl ⟨fun z => ?_, rfl⟩⟩
    unfold rdN at h
    rw [if_pos z] at h
    cases h
  have NK : ∀ (l : List Nat) (x : Nat), Tx l → l.length ≤ 100000 → rdN l = some x → RRi Tp.c_TextError [.d (.str (sx l))] (.ok (.i ((x : Nat) : Int))) := fun l x tl ll h => by
    unfold rdN at h
    by_cases c : l.length ≤ 9 ∧ IsDec l
    · rw [if_pos c] at h
      cases h
      exact ⟨l, rfl, tl, ll, .inr ⟨c.1, c.2, rfl⟩⟩
    · rw [if_neg c] at h; cases h
  have shK : SeqAt.shaped (.tuple [.str (sx wApart), .str (sx wJoint)]) = true := by decide +kernel
  have eK : (!([PyData.str (sx wApart), .str (sx wJoint)].any fun z => PyData.eqv z (.str (sx k)))) = !(decide (wApart = k) || decide (wJoint = k)) := by
    rw [← eqv_s, ← eqv_s]
    simp
  refine s_seq (s_asgG (x := .list (strL [k, a, b, s, m])) (e_l2d (e_var rfl)) (g_lst rfl (g_cons g_name (g_cons g_name (g_cons g_name (g_cons g_name (g_cons g_name g_nil))))))) ?_
  by_cases ck : k = wApart ∨ k = wJoint
  rotate_left
  · have e0 : rdFo [k, a, b, s, m] = none := by unfold rdFo; dsimp only; rw [if_neg ck]
    have er : r = .err Tp.c_TextError := by
      rcases hr with ⟨_, e⟩ | ⟨z, e, _⟩
      · exact e
      · rw [e0] at e; cases e
    subst er
    refine s_any (q_ifT (p_test (e_notInT (y := .str (sx k)) (xs := [.str (sx wApart), .str (sx wJoint)]) (e_var rfl) (e_is (e_glob (x := .tuple [.str (Str.ofString "apart"), .str (Str.ofString "joint")]) fun G => .tup (Tp.dk_FORCE_KINDS G) (.cons (.str _) (.cons (.str _) .nil))) (by rw [st_apart, st_joint])) (sh_str tk) shK)) ?_ (s_raise' fun G H σ D gh io => hx _ rfl G H io))
    rw [eK, Bool.not_eq_true', Bool.or_eq_false_iff, decide_eq_false_iff_not, decide_eq_false_iff_not]
    exact ⟨fun z => ck (.inl z.symm), fun z => ck (.inr z.symm)⟩
  refine q_skip (p_test (e_notInT (y := .str (sx k)) (xs := [.str (sx wApart), .str (sx wJoint)]) (e_var rfl) (e_is (e_glob (x := .tuple [.str (Str.ofString "apart"), .str (Str.ofString "joint")]) fun G => .tup (Tp.dk_FORCE_KINDS G) (.cons (.str _) (.cons (.str _) .nil))) (by rw [st_apart, st_joint])) (sh_str tk) shK)) ?_ ?_
  · rw [eK, Bool.not_eq_false', Bool.or_eq_true, decide_eq_true_iff, decide_eq_true_iff]
    rcases ck with z | z
    · exact .inl z.symm
    · exact .inr z.symm
  cases ea : rdN a with
  | none =>
    have er : r = .err Tp.c_TextError := by
      rcases hr with ⟨_, e⟩ | ⟨z, e, _⟩
      · exact e
      · rw [rdFo_eq ck, ea] at e; cases e
    subst er
    exact s_retE (L := .no) (e_tup (ds := [.t [.str (sx k), .int 0, .int 0, .int 0], .d .none]) (xs := [.tuple [.str (sx k), .int 0, .int 0, .int 0], .none]) (a_cons (e_tup (ds := [.d (.str (sx k)), .i 0, .i 0, .i 0]) (xs := [.str (sx k), .int 0, .int 0, .int 0]) (a_cons (e_var rfl) (a_cons (e_callE (tabs := Tp.tabs) (R := RRi Tp.c_TextError) (ds := [.d (.str (sx a))]) (d := .i 0) (L := .no) (p_cons (e_var rfl) a_nil) (NO a ta la ea) fun G H io => hx _ rfl G H io) a_no)) (.cons (.cons (.cons (.cons .nil)))) (show 4 ≤ 100000 by decide)) a_no) (.cons (.cons .nil)) (show 2 ≤ 100000 by decide)) fun _ _ z => z
  | some x =>
  cases eb : rdN b with
  | none =>
    have er : r = .err Tp.c_TextError := by
      rcases hr with ⟨_, e⟩ | ⟨z, e, _⟩
      · exact e
      · rw [rdFo_eq ck, ea, eb] at e; cases e
    subst er
    exact s_retE (L := .no) (e_tup (ds := [.t [.str (sx k), .int (((x : Nat) : Int)), .int 0, .int 0], .d .none]) (xs := [.tuple [.str (sx k), .int (((x : Nat) : Int)), .int 0, .int 0], .none]) (a_cons (e_tup (ds := [.d (.str (sx k)), .i (((x : Nat) : Int)), .i 0, .i 0]) (xs := [.str (sx k), .int (((x : Nat) : Int)), .int 0, .int 0]) (a_cons (e_var rfl) (a_cons (e_callX (tabs := Tp.tabs) (R := RRi Tp.c_TextError) (ds := [.d (.str (sx a))]) (d := .i ((x : Nat) : Int)) (p_cons (e_var rfl) a_nil) (NK a x ta la ea)) (a_cons (e_callE (tabs := Tp.tabs) (R := RRi Tp.c_TextError) (ds := [.d (.str (sx b))]) (d := .i 0) (L := .no) (p_cons (e_var rfl) a_nil) (NO b tb lb eb) fun G H io => hx _ rfl G H io) a_no))) (.cons (.cons (.cons (.cons .nil)))) (show 4 ≤ 100000 by decide)) a_no) (.cons (.cons .nil)) (show 2 ≤ 100000 by decide)) fun _ _ z => z
  | some y =>
  cases es : rdN s with
  | none =>
    have er : r = .err Tp.c_TextError := by
      rcases hr with ⟨_, e⟩ | ⟨z, e, _⟩
      · exact e
      · rw [rdFo_eq ck, ea, eb, es] at e; cases e
    subst er
    exact s_retE (L := .no) (e_tup (ds := [.t [.str (sx k), .int (((x : Nat) : Int)), .int (((y : Nat) : Int)), .int 0], .d .none]) (xs := [.tuple [.str (sx k), .int (((x : Nat) : Int)), .int (((y : Nat) : Int)), .int 0], .none]) (a_cons (e_tup (ds := [.d (.str (sx k)), .i (((x : Nat) : Int)), .i (((y : Nat) : Int)), .i 0]) (xs := [.str (sx k), .int (((x : Nat) : Int)), .int (((y : Nat) : Int)), .int 0]) (a_cons (e_var rfl) (a_cons (e_callX (tabs := Tp.tabs) (R := RRi Tp.c_TextError) (ds := [.d (.str (sx a))]) (d := .i ((x : Nat) : Int)) (p_cons (e_var rfl) a_nil) (NK a x ta la ea)) (a_cons (e_callX (tabs := Tp.tabs) (R := RRi Tp.c_TextError) (ds := [.d (.str (sx b))]) (d := .i ((y : Nat) : Int)) (p_cons (e_var rfl) a_nil) (NK b y tb lb eb)) (a_cons (e_callE (tabs := Tp.tabs) (R := RRi Tp.c_TextError) (ds := [.d (.str (sx s))]) (d := .i 0) (L := .no) (p_cons (e_var rfl) a_nil) (NO s ts ls es) fun G H io => hx _ rfl G H io) a_no)))) (.cons (.cons (.cons (.cons .nil)))) (show 4 ≤ 100000 by decide)) a_no) (.cons (.cons .nil)) (show 2 ≤ 100000 by decide)) fun _ _ z => z
  | some z =>
  cases em : rdF m with
  | none =>
    have er : r = .err Tp.c_TextError := by
      rcases hr with ⟨_, e⟩ | ⟨z, e, _⟩
      · exact e
      · rw [rdFo_eq ck, ea, eb, es, em] at e; cases e
    subst er
    exact s_retE (L := .no) (e_tup (ds := [.t [.str (sx k), .int (((x : Nat) : Int)), .int (((y : Nat) : Int)), .int (((z : Nat) : Int))], .d (fr (0, 1))]) (xs := [.tuple [.str (sx k), .int (((x : Nat) : Int)), .int (((y : Nat) : Int)), .int (((z : Nat) : Int))], fr (0, 1)]) (a_cons (e_tup (ds := [.d (.str (sx k)), .i (((x : Nat) : Int)), .i (((y : Nat) : Int)), .i (((z : Nat) : Int))]) (xs := [.str (sx k), .int (((x : Nat) : Int)), .int (((y : Nat) : Int)), .int (((z : Nat) : Int))]) (a_cons (e_var rfl) (a_cons (e_callX (tabs := Tp.tabs) (R := RRi Tp.c_TextError) (ds := [.d (.str (sx a))]) (d := .i ((x : Nat) : Int)) (p_cons (e_var rfl) a_nil) (NK a x ta la ea)) (a_cons (e_callX (tabs := Tp.tabs) (R := RRi Tp.c_TextError) (ds := [.d (.str (sx b))]) (d := .i ((y : Nat) : Int)) (p_cons (e_var rfl) a_nil) (NK b y tb lb eb)) (a_cons (e_callX (tabs := Tp.tabs) (R := RRi Tp.c_TextError) (ds := [.d (.str (sx s))]) (d := .i ((z : Nat) : Int)) (p_cons (e_var rfl) a_nil) (NK s z ts ls es)) a_nil)))) (.cons (.cons (.cons (.cons .nil)))) (show 4 ≤ 100000 by decide)) (a_cons (e_callE (tabs := Tp.tabs) (R := RRead Tp.c_TextError) (ds := [.d (.str (sx m))]) (d := .d (fr (0, 1))) (L := .no) (p_cons (e_var rfl) a_nil) (ER m tm lm em) fun G H io => hx _ rfl G H io) a_no)) (.cons (.cons .nil)) (show 2 ≤ 100000 by decide)) fun _ _ z => z
  | some v =>
  have er : r = .ok (.d (forceD (⟨k, x, y, z⟩, v))) := by
    rcases hr with ⟨e, _⟩ | ⟨z, e, h⟩
    · rw [rdFo_eq ck, ea, eb, es, em] at e; cases e
    · rw [rdFo_eq ck, ea, eb, es, em] at e
      rw [h, ← Option.some.inj e]
  subst er
  exact p_ret (p_tup2 (a_cons (e_tup (ds := [.d (.str (sx k)), .i (((x : Nat) : Int)), .i (((y : Nat) : Int)), .i (((z : Nat) : Int))]) (xs := [.str (sx k), .int (((x : Nat) : Int)), .int (((y : Nat) : Int)), .int (((z : Nat) : Int))]) (a_cons (e_var rfl) (a_cons (e_callX (tabs := Tp.tabs) (R := RRi Tp.c_TextError) (ds := [.d (.str (sx a))]) (d := .i ((x : Nat) : Int)) (p_cons (e_var rfl) a_nil) (NK a x ta la ea)) (a_cons (e_callX (tabs := Tp.tabs) (R := RRi Tp.c_TextError) (ds := [.d (.str (sx b))]) (d := .i ((y : Nat) : Int)) (p_cons (e_var rfl) a_nil) (NK b y tb lb eb)) (a_cons (e_callX (tabs := Tp.tabs) (R := RRi Tp.c_TextError) (ds := [.d (.str (sx s))]) (d := .i ((z : Nat) : Int)) (p_cons (e_var rfl) a_nil) (NK s z ts ls es)) a_nil)))) (.cons (.cons (.cons (.cons .nil)))) (show 4 ≤ 100000 by decide)) (a_cons (e_callX (tabs := Tp.tabs) (R := RRead Tp.c_TextError) (ds := [.d (.str (sx m))]) (d := .d (fr v)) (p_cons (e_var rfl) a_nil) (OK m v tm lm em)) a_nil)))
theorem fok_law_vector (Tp : Top K mg base) : FnOk P w K mg base CX0 4 Tp.f_law_vector Tp.d_law_vector ["d", "most"] (spW K RVec) := by
  have G_law_part := fok_law_part (P := P) (w := w) (base := base) Tp
  refine Tp.F_law_vector.ok sc_law_vector (fun vs H Q E h => len_W (fun _ _ _ _ ⟨_, e, _⟩ => by rw [e]; rfl) h) (fun cdv A outer s H vs Q E hr h => ?_)
  refine ⟨_, (pss_one (ps_ret (pe_tup (pa_cons (pe_call G_law_part (hr.mono (by decide)) (by rfl) Tp.g_law_part Tp.F_law_part.kp Tp.b_law_part .nil pass0 (pa_cons (pv 0) (pa_cons (pv 1) pa_nil))) (pa_cons (pe_call G_law_part (hr.mono (by decide)) (by rfl) Tp.g_law_part Tp.F_law_part.kp Tp.b_law_part .nil pass0 (pa_cons (pv 0) (pa_cons (pv 1) pa_nil))) pa_nil))))), body_W ?_ h⟩
  refine fun ds C d C' r p J hf => ?_
  obtain ⟨m, rfl, ok, hm, hz, rfl, rfl⟩ := r
  walk_at "norm"
  obtain ⟨o1, _⟩ := part_ok (C := C) (m := m) ok hm hz
  refine s_ret (e_tup (a_cons (e_draw (R := RPart) (ds := [.i m]) (C := C) (by walk_at "ev") ⟨_, rfl, ok, hm, hz, rfl, rfl⟩ hf) (a_cons (e_draw (R := RPart) (ds := [.i m]) (by walk_at "ev") ⟨_, rfl, o1, hm, hz, rfl, rfl⟩ hf) a_nil)) (.cons (.cons .nil)) (show 2 ≤ 100000 by decide))
theorem fok_write_run (Tp : Top K mg base) : FnOk P w K mg base CX0 5 Tp.f_write_run Tp.d_write_run ["run"] (spP K RWrun) := by
  have G_lines_of_step := fok_lines_of_step (P := P) (w := w) (base := base) Tp
  refine Tp.F_write_run.ok sc_write_run (fun vs H Q E h => len_P (fun _ _ ⟨_, e, _⟩ => by rw [e]; rfl) h) (fun cdv A outer s H vs Q E hr h => ?_)
  refine ⟨_, (pss_one (ps_ret (pe_join pe_str (pe_lc2 (own := [("step", 1), ("line", 2)]) (vs1 := [2]) (g := (gName 1)) (g1 := (gName 2)) (wi1 := iList K _) (tt := tYes) (tt1 := tYes) rfl sc_write_run.nd (pi_tup (pv 0)) (blkOk_by (N := ["run", "step", "line"]) (sc := defScope s_write_run) (by decide +kernel)) (by decide) (fun _ _ _ _ _ => (pg_name (i := 1) sc_write_run.nd rfl (Or.inl rfl))) (fun _ _ _ _ _ => pts_nil) (fun _ _ _ _ _ => (pi_list (pe_call G_lines_of_step (hr.mono (by decide)) (by rfl) Tp.g_lines_of_step Tp.F_lines_of_step.kp Tp.b_lines_of_step .nil pass0 (pa_cons (pv 1) pa_nil)))) (fun _ _ _ _ _ => (pg_name (i := 2) sc_write_run.nd rfl (Or.inl rfl))) (fun _ _ _ _ _ => pts_nil) (fun _ _ _ _ _ => (pe_op op_add_str (pv 2) pe_str)))))), body_P ?_ h⟩
  refine fun ds d r I => ?_
  obtain ⟨r, rfl, hr, hn, ht, rfl⟩ := r
  walk_at "norm"
  have eR : ((List.range r.length).map fun i => (stLines (r.getD i ⟨[], [], []⟩)).map fun l => PyData.str (sx (l ++ [10]))).flatten = ((linesAll r).map (· ++ [10])).map fun l => PyData.str (sx l) := by
    have e1 : (List.range r.length).map (fun i => (stLines (r.getD i ⟨[], [], []⟩)).map fun l => PyData.str (sx (l ++ [10]))) = r.map fun s => (stLines s).map fun l => PyData.str (sx (l ++ [10])) := by
      refine List.ext_getElem? fun j => ?_
      rw [List.getElem?_map, List.getElem?_map]
      by_cases h : j < r.length
      · rw [List.getElem?_range h, List.getElem?_eq_getElem h]
        show some ((stLines (r.getD j _)).map _) = some ((stLines r[j]).map _)
        rw [List.getD_eq_getElem?_getD, List.getElem?_eq_getElem h]
        rfl
      · rw [List.getElem?_eq_none (show (List.range r.length).length ≤ j by rw [List.length_range]; omega), List.getElem?_eq_none (show r.length ≤ j by omega)]
        rfl
    rw [e1]
    unfold linesAll
    rw [List.map_map, List.map_flatten, List.map_map]
    rfl
  have big : ∀ l ∈ linesAll r, l.length ≤ 20000 := fun l hl => by
    have := glue_len_le hl
    unfold textOf at ht
    omega
  refine p_ret (e_is (e_joinL (a := Str.ofString "") (ys := ((linesAll r).map (· ++ [10])).map sx) e_str (e_is (e_lc2W (n := r.length) (xs := at0 (r.map stepD)) (m := fun i => (stLines (r.getD i ⟨[], [], []⟩)).length) (ys := fun i => at0 (strL (stLines (r.getD i ⟨[], [], []⟩)))) (b := fun _ _ => true) (e := fun i j => PyData.str (sx ((stLines (r.getD i ⟨[], [], []⟩)).getD j [] ++ [10]))) (by
      have h := iw_t (ds := r.map stepD) (I := I) (J := I) (K := K) (ρ := [some (.d (runD r)), none, none]) (tl := tVar 0) (e_var rfl)
      rw [List.length_map] at h
      exact h) (by omega) (fun i hi => by
      have : r.getD i ⟨[], [], []⟩ = r[i] := by rw [List.getD_eq_getElem?_getD, List.getElem?_eq_getElem hi]; rfl
      rw [this]
      exact (hr _ (List.getElem_mem hi)).2) fun i hi => by
      have e1 : r.getD i ⟨[], [], []⟩ = r[i] := by rw [List.getD_eq_getElem?_getD, List.getElem?_eq_getElem hi]; rfl
      have e2 : at0 (r.map stepD) i = stepD r[i] := at0_map (List.getElem?_eq_getElem hi)
      have hh := hr _ (List.getElem_mem hi)
      have hin : ∀ l ∈ stLines r[i], l ∈ linesAll r := fun l hl => by
        unfold linesAll
        exact List.mem_flatten.mpr ⟨_, List.mem_map.mpr ⟨_, List.getElem_mem hi, rfl⟩, hl⟩
      rw [e1, e2]
      refine ⟨_, w_name List.mem_cons_self, fun I' => ?_, fun j hj => ?_⟩
      · have e6 : (stLines r[i]).length = (strL (stLines r[i])).length := (List.length_map ..).symm
        rw [e6]
        exact iw_ll (p_call (R := RLs) (ds := [.d (stepD r[i])]) (p_cons (e_var rfl) a_nil) ⟨r[i], rfl, hh.1, hh.2, rfl⟩)
      · have e3 : at0 (strL (stLines r[i])) j = .str (sx (stLines r[i])[j]) := at0_map (List.getElem?_eq_getElem hj)
        have e4 : (stLines r[i]).getD j [] = (stLines r[i])[j] := by rw [List.getD_eq_getElem?_getD, List.getElem?_eq_getElem hj]; rfl
        have hb := big _ (hin _ (List.getElem_mem hj))
        rw [e3, e4]
        exact ⟨_, w_name List.mem_cons_self, fun I' => t_yes, fun _ I' => (e_is (e_addS (x := sx (stLines r[i])[j]) (y := sx [10]) (e_var rfl) (e_is e_str (by rw [st_lf])) (by rw [sx_len, sx_len, sizeLine_eq]; rw [List.length_singleton]; omega)) (by rw [sx_app]))⟩) (by
      rw [rowsK_ls r.length (fun i => stLines (r.getD i ⟨[], [], []⟩)) (fun l => PyData.str (sx (l ++ [10]))), eR]
      simp only [List.map_map]
      rfl)) ?_) ?_)
  · have e1 : (Str.ofString "").length = 0 := rfl
    rw [e1, Nat.mul_zero, Nat.add_zero, List.map_map]
    have e2 : (((linesAll r).map (· ++ [10])).map ((fun z : Str => z.length) ∘ sx)).sum = (textOf r).length := by
      unfold textOf glue
      rw [List.length_flatten]
      congr 1
    omega
  · rw [jn]
    rfl
theorem fok_read_part (Tp : Top K mg base) : FnOk P w K mg base (L2.CX P w) 5 Tp.f_read_part Tp.d_read_part ["word", "line"] (spXT K Tp.tabs (RRp Tp.c_TextError)) := by
  have G_read_force := fok_read_force (P := P) (w := w) (base := base) Tp
  have G_words_behind := fok_words_behind (P := P) (w := w) (base := base) Tp
  have G_read_vector := fok_read_vector (P := P) (w := w) (base := base) Tp
  have G_read_integer := fok_read_integer (P := P) (w := w) (base := base) Tp
  refine Tp.F_read_part.okX sc_read_part (fun vs H Q E h => len_X (fun _ _ ⟨_, _, e, _⟩ => by rw [e]; rfl) h) (fun cdv A outer s H vs Q E hr h => ?_)
  refine ⟨_, (pss_cons (ps_if (pt_cmpR (op_eqD hr.units) (pv 0) pe_str (nomark _)) (pss_cons (ps_set (i := 2) sc_read_part.nd rfl (.inl rfl) (pe_call G_words_behind (hr.mono (by decide)) (by rfl) Tp.g_words_behind Tp.F_words_behind.kp Tp.b_words_behind .nil (passes_call (takes_of rfl rfl rfl rfl) (fun _ _ _ _ z => z)) (pa_cons (pv 0) (pa_cons (pv 1) (pa_cons pe_int pa_nil)))))
      (pss_one (ps_ret (pe_tup (pa_cons (pe_call G_read_integer (hr.mono (by decide)) (by rfl) Tp.g_read_integer Tp.F_read_integer.kp Tp.b_read_integer .nil (passes_call (takes_of rfl rfl rfl rfl) (fun _ _ _ _ z => z)) (pa_cons (pe_ix (r := rIxL K) ix_list (pv 2) pe_int (fun _ _ => rfl)) pa_nil)) (pa_cons (pe_call G_read_vector (hr.mono (by decide)) (by rfl) Tp.g_read_vector Tp.F_read_vector.kp Tp.b_read_vector .nil (passes_call (takes_of rfl rfl rfl rfl) (fun _ _ _ _ z => z)) (pa_cons (pe_slice (r := rSlL K) sl_list (pv 2) (po_some pe_int) po_none) pa_nil)) pa_nil)))))) pss_nil)
      (pss_cons (ps_if (pt_cmpR (op_eqD hr.units) (pv 0) pe_str (nomark _)) (pss_one (ps_ret (pe_call G_read_vector (hr.mono (by decide)) (by rfl) Tp.g_read_vector Tp.F_read_vector.kp Tp.b_read_vector .nil (passes_call (takes_of rfl rfl rfl rfl) (fun _ _ _ _ z => z)) (pa_cons (pe_call G_words_behind (hr.mono (by decide)) (by rfl) Tp.g_words_behind Tp.F_words_behind.kp Tp.b_words_behind .nil (passes_call (takes_of rfl rfl rfl rfl) (fun _ _ _ _ z => z)) (pa_cons (pv 0) (pa_cons (pv 1) (pa_cons pe_int pa_nil)))) pa_nil)))) pss_nil)
      (pss_one (ps_ret (pe_call G_read_force (hr.mono (by decide)) (by rfl) Tp.g_read_force Tp.F_read_force.kp Tp.b_read_force .nil (passes_call (takes_of rfl rfl rfl rfl) (fun _ _ _ _ z => z)) (pa_cons (pe_call G_words_behind (hr.mono (by decide)) (by rfl) Tp.g_words_behind Tp.F_words_behind.kp Tp.b_words_behind .nil (passes_call (takes_of rfl rfl rfl rfl) (fun _ _ _ _ z => z)) (pa_cons (pv 0) (pa_cons (pv 1) (pa_cons pe_int pa_nil)))) pa_nil)))))), body_XT ?_ h⟩
  refine fun ds r hr I hT hx => ?_
  obtain ⟨w, l, rfl, tw, tl, hl, hw3, hr⟩ := hr
  walk_at "norm"
  have EQ : ∀ {ρ : Rho} {ta : TE} {m k : List Nat} {z : Str}, z = sx k → Tx m → Tx k → PL.E K ta ρ I (.d (.str (sx m))) I → PL.T K (tTest (tOp (rEqD K) ta (tC (.str z)))) ρ I (decide (m = k)) I := fun hz hm hk e => by
    subst hz
    exact t_is (p_test (p_eqD (x := .str (sx _)) (y := .str (sx _)) e e_str (sh_str hm) (sh_str hk))) (eqv_s _ _)
  have t0 : Tx [] := fun c hc => by cases hc
  have t48 : Tx [48] := fun c hc => by rw [List.mem_singleton.mp hc]; decide
  
  have tP : Tx wPush := by decide
  have tS : Tx wSpeed := by decide
  have tF : Tx wForce := by decide
  have u1 : rdPart wPush l = (rdPush l).map pushD := if_pos rfl
  have u2 : rdPart wSpeed l = (rdSpeed l).map vD := by unfold rdPart; rw [if_neg (by decide), if_pos rfl]
  have u3 : rdPart wForce l = (rdForce l).map forceD := by unfold rdPart; rw [if_neg (by decide), if_neg (by decide)]
  by_cases c1 : w = wPush
  · subst c1
    rw [u1] at hr
    unfold rdPush at hr
    refine (fun k => s_stopR (by cases r <;> first | exact ret_rt | exact ret_fin) (q_ifT (EQ st_push tw tP (e_var rfl)) (decide_eq_true rfl) k)) ?_
    cases ew : wds wPush 3 l with
    | none =>
      have er : r = .err Tp.c_TextError := by
          rcases hr with ⟨_, e⟩ | ⟨z, e, _⟩
          · exact e
          · exact absurd e (by rw [ew]; exact fun y => nomatch y)
      subst er
      exact s_asgNo (e_callE (R := RWb Tp.c_TextError) (ds := [.d (.str (sx wPush)), .d (.str (sx l)), .i ((3 : Nat) : Int)]) (d := .d .none) (L := .no) (p_cons (e_var rfl) (p_cons (e_var rfl) (p_cons (e_is e_int rfl) a_nil))) ⟨wPush, l, 3, rfl, by decide, tl, hl, by decide, .inl ⟨wds_no ew, rfl⟩⟩ fun G H io => hx _ rfl G H io)
    | some ws =>
      have hw := wds_yes ew
      have mm : ∀ p ∈ ws, Tx p ∧ p.length ≤ 100000 := fun p hp => ⟨splC_tx 32 tl p (hw.2.2.2.2 p hp), by have := splC_sub 32 l p (hw.2.2.2.2 p hp); omega⟩
      refine q_asg (d := .l (strL ws)) (e_is (e_callX (R := RWb Tp.c_TextError) (ds := [.d (.str (sx wPush)), .d (.str (sx l)), .i ((3 : Nat) : Int)]) (d := .l (strL ((splC 32 l).tail))) (p_cons (e_var rfl) (p_cons (e_var rfl) (p_cons (e_is e_int rfl) a_nil))) ⟨wPush, l, 3, rfl, by decide, tl, hl, by decide, .inr ⟨hw.1, hw.2.1, rfl⟩⟩) (by rw [hw.2.2.1])) ?_
      obtain ⟨n, a, b, rfl⟩ : ∃ n a b, ws = [n, a, b] := by
        match ws, hw.2.2.2.1 with
        | [n, a, b], _ => exact ⟨n, a, b, rfl⟩
      obtain ⟨tn, ln⟩ := mm n (by simp)
      obtain ⟨ta, la⟩ := mm a (by simp)
      obtain ⟨tb, lb⟩ := mm b (by simp)
      rw [ew] at hr
      dsimp only [Option.bind] at hr
      have ER : ∀ l : List Nat, Tx l → l.length ≤ 100000 → rdF l = none → RRead Tp.c_TextError [.d (.str (sx l))] (.err Tp.c_TextError) := fun l tl ll h => by
        refine ⟨l, rfl, tl, ll, ?_⟩
        unfold rdF at h
        by_cases c : 1000 < l.length
        · exact .inl ⟨c, rfl⟩
        · rw [if_neg c] at h
          exact .inr (.inl ⟨by omega, h, rfl⟩)
      have OK : ∀ (l : List Nat) (v : F), Tx l → l.length ≤ 100000 → rdF l = some v → RRead Tp.c_TextError [.d (.str (sx l))] (.ok (.d (fr v))) := fun l v tl ll h => by
        refine ⟨l, rfl, tl, ll, ?_⟩
        unfold rdF at h
        by_cases c : 1000 < l.length
        · rw [if_pos c] at h; cases h
        · rw [if_neg c] at h
          exact .inr (.inr ⟨by omega, v, h, rfl⟩)
      have NO : ∀ l : List Nat, Tx l → l.length ≤ 100000 → rdN l = none → RRi Tp.c_TextError [.d (.str (sx l))] (.err Tp.c_TextError) := fun l tl ll h => by
        refine ⟨l, rfl, tl, ll, .inl ⟨fun z => ?_, rfl⟩⟩
        unfold rdN at h
        rw [if_pos z] at h
        cases h
      have NK : ∀ (l : List Nat) (x : Nat), Tx l → l.length ≤ 100000 → rdN l = some x → RRi Tp.c_TextError [.d (.str (sx l))] (.ok (.i ((x : Nat) : Int))) := fun l x tl ll h => by
        unfold rdN at h
        by_cases c : l.length ≤ 9 ∧ IsDec l
        · rw [if_pos c] at h
          cases h
          exact ⟨l, rfl, tl, ll, .inr ⟨c.1, c.2, rfl⟩⟩
        · rw [if_neg c] at h; cases h
      cases eN : rdN n with
      | none =>
        have er : r = .err Tp.c_TextError := by
            rcases hr with ⟨_, e⟩ | ⟨z, e, _⟩
            · exact e
            · exact absurd e (by unfold rdP3; dsimp only; rw [eN]; exact fun y => nomatch y)
        subst er
        exact s_retE (L := .no) (e_tup (ds := [.i 0, .d .none]) (xs := [.int 0, .none]) (a_cons (e_callE (tabs := Tp.tabs) (R := RRi Tp.c_TextError) (ds := [.d (.str (sx n))]) (d := .i 0) (L := .no) (p_cons (e_ixL (j := 0) (x := .str (sx n)) (e_l2d (e_var rfl)) e_int rfl) a_nil) (NO n tn ln eN) fun G H io => hx _ rfl G H io) a_no) (.cons (.cons .nil)) (show 2 ≤ 100000 by decide)) fun _ _ z => z
      | some x =>
        cases eV : rdV [a, b] with
        | none =>
          have er : r = .err Tp.c_TextError := by
              rcases hr with ⟨_, e⟩ | ⟨z, e, _⟩
              · exact e
              · exact absurd e (by unfold rdP3; dsimp only; rw [eN, eV]; exact fun y => nomatch y)
          subst er
          exact s_retE (L := .no) (e_tup (ds := [.i ((x : Nat) : Int), .d .none]) (xs := [.int ((x : Nat) : Int), .none]) (a_cons (e_callX (tabs := Tp.tabs) (R := RRi Tp.c_TextError) (ds := [.d (.str (sx n))]) (d := .i ((x : Nat) : Int)) (p_cons (e_ixL (j := 0) (x := .str (sx n)) (e_l2d (e_var rfl)) e_int rfl) a_nil) (NK n x tn ln eN)) (a_cons (e_callE (tabs := Tp.tabs) (R := RRv Tp.c_TextError) (ds := [.l (strL [a, b])]) (d := .d .none) (L := .no) (p_cons (e_is (e_sliceFrom (j := 1) (ds := strL [n, a, b]) (e_l2d (e_var rfl)) (e_is e_int rfl)) rfl) a_nil) ⟨a, b, rfl, ta, tb, la, lb, .inl ⟨rdV_no eV, rfl⟩⟩ fun G H io => hx _ rfl G H io) a_no)) (.cons (.cons .nil)) (show 2 ≤ 100000 by decide)) fun _ _ z => z
        | some v =>
          have er : r = .ok (.d (pushD (x, v))) := by
              rcases hr with ⟨e, _⟩ | ⟨z, e, h⟩
              · exact absurd e (by unfold rdP3; dsimp only; rw [eN, eV]; exact fun y => nomatch y)
              · rw [h, ← Option.some.inj (show some (pushD (x, v)) = some z by rw [← e]; symm; unfold rdP3; dsimp only; rw [eN, eV]; rfl)]
          subst er
          exact p_ret (p_tup2 (p_cons (e_callX (tabs := Tp.tabs) (R := RRi Tp.c_TextError) (ds := [.d (.str (sx n))]) (d := .i ((x : Nat) : Int)) (p_cons (e_ixL (j := 0) (x := .str (sx n)) (e_l2d (e_var rfl)) e_int rfl) a_nil) (NK n x tn ln eN)) (p_cons (e_callX (tabs := Tp.tabs) (R := RRv Tp.c_TextError) (ds := [.l (strL [a, b])]) (d := .d (.tuple [fr v.1, fr v.2])) (p_cons (e_is (e_sliceFrom (j := 1) (ds := strL [n, a, b]) (e_l2d (e_var rfl)) (e_is e_int rfl)) rfl) a_nil) ⟨a, b, rfl, ta, tb, la, lb, .inr ⟨_, _, (rdV_yes eV).1, (rdV_yes eV).2, rfl⟩⟩) a_nil)))
  refine q_skip (EQ st_push tw tP (e_var rfl)) (decide_eq_false c1) ?_
  by_cases c2 : w = wSpeed
  · subst c2
    rw [u2] at hr
    unfold rdSpeed at hr
    refine (fun k => s_stopR (by cases r <;> first | exact ret_rt | exact ret_fin) (q_ifT (EQ st_speed tw tS (e_var rfl)) (decide_eq_true rfl) k)) ?_
    cases ew : wds wSpeed 2 l with
    | none =>
      have er : r = .err Tp.c_TextError := by
          rcases hr with ⟨_, e⟩ | ⟨z, e, _⟩
          · exact e
          · exact absurd e (by rw [ew]; exact fun y => nomatch y)
      subst er
      exact s_retE (L := .no) (e_callNo (ds := [.d .none]) (d := .d .none) (a_cons (e_callE (R := RWb Tp.c_TextError) (ds := [.d (.str (sx wSpeed)), .d (.str (sx l)), .i ((2 : Nat) : Int)]) (d := .d .none) (L := .no) (p_cons (e_var rfl) (p_cons (e_var rfl) (p_cons (e_is e_int rfl) a_nil))) ⟨wSpeed, l, 2, rfl, by decide, tl, hl, by decide, .inl ⟨wds_no ew, rfl⟩⟩ fun G H io => hx _ rfl G H io) a_no)) fun _ _ z => z
    | some ws =>
      have hw := wds_yes ew
      have mm : ∀ p ∈ ws, Tx p ∧ p.length ≤ 100000 := fun p hp => ⟨splC_tx 32 tl p (hw.2.2.2.2 p hp), by have := splC_sub 32 l p (hw.2.2.2.2 p hp); omega⟩
      obtain ⟨a, b, rfl⟩ : ∃ a b, ws = [a, b] := by
        match ws, hw.2.2.2.1 with
        | [a, b], _ => exact ⟨a, b, rfl⟩
      obtain ⟨ta, la⟩ := mm a (by simp)
      obtain ⟨tb, lb⟩ := mm b (by simp)
      rw [ew] at hr
      dsimp only [Option.bind] at hr
      cases eV : rdV [a, b] with
      | none =>
        have er : r = .err Tp.c_TextError := by
            rcases hr with ⟨_, e⟩ | ⟨z, e, _⟩
            · exact e
            · exact absurd e (by rw [eV]; exact fun y => nomatch y)
        subst er
        exact s_retE (L := .no) (e_callE (tabs := Tp.tabs) (R := RRv Tp.c_TextError) (ds := [.l (strL [a, b])]) (d := .d .none) (L := .no) (p_cons (e_is (e_callX (R := RWb Tp.c_TextError) (ds := [.d (.str (sx wSpeed)), .d (.str (sx l)), .i ((2 : Nat) : Int)]) (d := .l (strL ((splC 32 l).tail))) (p_cons (e_var rfl) (p_cons (e_var rfl) (p_cons (e_is e_int rfl) a_nil))) ⟨wSpeed, l, 2, rfl, by decide, tl, hl, by decide, .inr ⟨hw.1, hw.2.1, rfl⟩⟩) (by rw [hw.2.2.1])) a_nil) ⟨a, b, rfl, ta, tb, la, lb, .inl ⟨rdV_no eV, rfl⟩⟩ fun G H io => hx _ rfl G H io) fun _ _ z => z
      | some v =>
        have er : r = .ok (.d (vD v)) := by
            rcases hr with ⟨e, _⟩ | ⟨z, e, h⟩
            · exact absurd e (by rw [eV]; exact fun y => nomatch y)
            · rw [h, ← Option.some.inj (show some (vD v) = some z by rw [← e]; symm; rw [eV]; rfl)]
        subst er
        exact p_ret (e_callX (tabs := Tp.tabs) (R := RRv Tp.c_TextError) (ds := [.l (strL [a, b])]) (d := .d (.tuple [fr v.1, fr v.2])) (p_cons (e_is (e_callX (R := RWb Tp.c_TextError) (ds := [.d (.str (sx wSpeed)), .d (.str (sx l)), .i ((2 : Nat) : Int)]) (d := .l (strL ((splC 32 l).tail))) (p_cons (e_var rfl) (p_cons (e_var rfl) (p_cons (e_is e_int rfl) a_nil))) ⟨wSpeed, l, 2, rfl, by decide, tl, hl, by decide, .inr ⟨hw.1, hw.2.1, rfl⟩⟩) (by rw [hw.2.2.1])) a_nil) ⟨a, b, rfl, ta, tb, la, lb, .inr ⟨_, _, (rdV_yes eV).1, (rdV_yes eV).2, rfl⟩⟩)
  refine q_skip (EQ st_speed tw tS (e_var rfl)) (decide_eq_false c2) ?_
  obtain rfl : w = wForce := by
    rcases hw3 with z | z | z
    · exact absurd z c1
    · exact absurd z c2
    · exact z
  rw [u3] at hr
  unfold rdForce at hr
  cases ew : wds wForce 5 l with
  | none =>
    have er : r = .err Tp.c_TextError := by
        rcases hr with ⟨_, e⟩ | ⟨z, e, _⟩
        · exact e
        · exact absurd e (by rw [ew]; exact fun y => nomatch y)
    subst er
    exact s_retE (L := .no) (e_callNo (ds := [.d .none]) (d := .d .none) (a_cons (e_callE (R := RWb Tp.c_TextError) (ds := [.d (.str (sx wForce)), .d (.str (sx l)), .i ((5 : Nat) : Int)]) (d := .d .none) (L := .no) (p_cons (e_var rfl) (p_cons (e_var rfl) (p_cons (e_is e_int rfl) a_nil))) ⟨wForce, l, 5, rfl, by decide, tl, hl, by decide, .inl ⟨wds_no ew, rfl⟩⟩ fun G H io => hx _ rfl G H io) a_no)) fun _ _ z => z
  | some ws =>
    have hw := wds_yes ew
    have mm : ∀ p ∈ ws, Tx p ∧ p.length ≤ 100000 := fun p hp => ⟨splC_tx 32 tl p (hw.2.2.2.2 p hp), by have := splC_sub 32 l p (hw.2.2.2.2 p hp); omega⟩
    obtain ⟨k, a, b, s, m, rfl⟩ : ∃ k a b s m, ws = [k, a, b, s, m] := by
      match ws, hw.2.2.2.1 with
      | [k, a, b, s, m], _ => exact ⟨k, a, b, s, m, rfl⟩
    obtain ⟨tk, lk⟩ := mm k (by simp)
    obtain ⟨ta, la⟩ := mm a (by simp)
    obtain ⟨tb, lb⟩ := mm b (by simp)
    obtain ⟨ts, ls⟩ := mm s (by simp)
    obtain ⟨tm, lm⟩ := mm m (by simp)
    rw [ew] at hr
    dsimp only [Option.bind] at hr
    cases eV : rdFo [k, a, b, s, m] with
    | none =>
      have er : r = .err Tp.c_TextError := by
          rcases hr with ⟨_, e⟩ | ⟨z, e, _⟩
          · exact e
          · exact absurd e (by rw [eV]; exact fun y => nomatch y)
      subst er
      exact s_retE (L := .no) (e_callE (tabs := Tp.tabs) (R := RRo Tp.c_TextError) (ds := [.l (strL [k, a, b, s, m])]) (d := .d .none) (p_cons (e_is (e_callX (R := RWb Tp.c_TextError) (ds := [.d (.str (sx wForce)), .d (.str (sx l)), .i ((5 : Nat) : Int)]) (d := .l (strL ((splC 32 l).tail))) (p_cons (e_var rfl) (p_cons (e_var rfl) (p_cons (e_is e_int rfl) a_nil))) ⟨wForce, l, 5, rfl, by decide, tl, hl, by decide, .inr ⟨hw.1, hw.2.1, rfl⟩⟩) (by rw [hw.2.2.1])) a_nil) ⟨k, a, b, s, m, rfl, ⟨tk, ta, tb, ts, tm⟩, ⟨lk, la, lb, ls, lm⟩, .inl ⟨eV, rfl⟩⟩ fun G H io => hx _ rfl G H io) fun _ _ z => z
    | some v =>
      have er : r = .ok (.d (forceD v)) := by
          rcases hr with ⟨e, _⟩ | ⟨z, e, h⟩
          · exact absurd e (by rw [eV]; exact fun y => nomatch y)
          · rw [h, ← Option.some.inj (show some (forceD v) = some z by rw [← e]; symm; rw [eV]; rfl)]
      subst er
      exact p_ret (e_callX (tabs := Tp.tabs) (R := RRo Tp.c_TextError) (ds := [.l (strL [k, a, b, s, m])]) (d := .d (forceD v)) (p_cons (e_is (e_callX (R := RWb Tp.c_TextError) (ds := [.d (.str (sx wForce)), .d (.str (sx l)), .i ((5 : Nat) : Int)]) (d := .l (strL ((splC 32 l).tail))) (p_cons (e_var rfl) (p_cons (e_var rfl) (p_cons (e_is e_int rfl) a_nil))) ⟨wForce, l, 5, rfl, by decide, tl, hl, by decide, .inr ⟨hw.1, hw.2.1, rfl⟩⟩) (by rw [hw.2.2.1])) a_nil) ⟨k, a, b, s, m, rfl, ⟨tk, ta, tb, ts, tm⟩, ⟨lk, la, lb, ls, lm⟩, .inr ⟨v, eV, rfl⟩⟩)
theorem fok_law_run (Tp : Top K mg base) : FnOk P w K mg base CX0 5 Tp.f_law_run Tp.d_law_run ["d"] (spN K RRunN) := by
  have G_law_take := fok_law_take (P := P) (w := w) (base := base) Tp
  have G_law_vector := fok_law_vector (P := P) (w := w) (base := base) Tp
  have G_law_part := fok_law_part (P := P) (w := w) (base := base) Tp
  refine Tp.F_law_run.ok sc_law_run (fun vs H Q E h => len_N (fun _ _ _ _ ⟨e, _⟩ => by rw [e]; rfl) h) (fun cdv A outer s H vs Q E hr h => ?_)
  refine ⟨_, (pss_cons (ps_set (i := 1) sc_law_run.nd rfl (.inl rfl) (pe_lst pa_nil))
      (pss_cons (ps_for PassesOwn.never rfl (pi_range1 (by rfl) Tp.n_range (pa_cons (pe_call G_law_take (hr.mono (by decide)) (by rfl) Tp.g_law_take Tp.F_law_take.kp Tp.b_law_take .nil pass0 (pa_cons (pv 0) (pa_cons pe_int pa_nil))) pa_nil)) (pg_name (i := 2) sc_law_run.nd rfl (.inl rfl)) (pss_cons (ps_setLc (i := 4) (own := [("k", 3)]) (g := gName 3) (tt := tYes) rfl sc_law_run.nd rfl rfl (sw_true rfl rfl rfl rfl) (pi_range1 (by rfl) Tp.n_range (pa_cons (pe_call G_law_take (hr.mono (by decide)) (by rfl) Tp.g_law_take Tp.F_law_take.kp Tp.b_law_take .nil pass0 (pa_cons (pv 0) (pa_cons pe_int pa_nil))) pa_nil)) (blkOk_by (N := ["d", "run", "turn", "k", "pushes", "speeds", "forces", "kind"]) (sc := defScope s_law_run) (by decide +kernel)) (fun _ _ _ _ _ => pg_name (i := 3) sc_law_run.nd rfl (Or.inl rfl)) (fun _ _ _ _ _ => pts_nil) (fun _ _ _ _ _ => (pe_tup (pa_cons (pe_op op_add (pe_op op_mulW pe_int (pv 3)) (pe_call G_law_take (hr.mono (by decide)) (by rfl) Tp.g_law_take Tp.F_law_take.kp Tp.b_law_take .nil pass0 (pa_cons (pv 0) (pa_cons pe_int pa_nil)))) (pa_cons (pe_call G_law_vector (hr.mono (by decide)) (by rfl) Tp.g_law_vector Tp.F_law_vector.kp Tp.b_law_vector .nil pass0 (pa_cons (pv 0) (pa_cons pe_int pa_nil))) pa_nil)))))
      (pss_cons (ps_setLc (i := 5) (own := [("k", 3)]) (g := gName 3) (tt := tYes) rfl sc_law_run.nd rfl rfl (sw_true rfl rfl rfl rfl) (pi_range1 (by rfl) Tp.n_range (pa_cons (pe_call G_law_take (hr.mono (by decide)) (by rfl) Tp.g_law_take Tp.F_law_take.kp Tp.b_law_take .nil pass0 (pa_cons (pv 0) (pa_cons pe_int pa_nil))) pa_nil)) (blkOk_by (N := ["d", "run", "turn", "k", "pushes", "speeds", "forces", "kind"]) (sc := defScope s_law_run) (by decide +kernel)) (fun _ _ _ _ _ => pg_name (i := 3) sc_law_run.nd rfl (Or.inl rfl)) (fun _ _ _ _ _ => pts_nil) (fun _ _ _ _ _ => (pe_call G_law_vector (hr.mono (by decide)) (by rfl) Tp.g_law_vector Tp.F_law_vector.kp Tp.b_law_vector .nil pass0 (pa_cons (pv 0) (pa_cons pe_int pa_nil)))))
      (pss_cons (ps_set (i := 6) sc_law_run.nd rfl (.inl rfl) (pe_lst pa_nil))
      (pss_cons (ps_for PassesOwn.never rfl (pi_range1 (by rfl) Tp.n_range (pa_cons (pe_call G_law_take (hr.mono (by decide)) (by rfl) Tp.g_law_take Tp.F_law_take.kp Tp.b_law_take .nil pass0 (pa_cons (pv 0) (pa_cons pe_int pa_nil))) pa_nil)) (pg_name (i := 3) sc_law_run.nd rfl (.inl rfl)) (pss_cons (ps_set (i := 7) sc_law_run.nd rfl (.inl rfl) (pe_ix (r := rIxT K) ix_tup (pe_tup (pa_cons pe_str (pa_cons pe_str pa_nil))) (pe_call G_law_take (hr.mono (by decide)) (by rfl) Tp.g_law_take Tp.F_law_take.kp Tp.b_law_take .nil pass0 (pa_cons (pv 0) (pa_cons pe_int pa_nil))) (fun _ _ => rfl)))
      (pss_one (ps_expr (pe_bm PySem.F.plainAttrs_list PySem.F.slot_list_append PySem.F.type_list_append mt_append (pv 6) (pa_cons (pe_tup (pa_cons (pe_tup (pa_cons (pv 7) (pa_cons (pe_call G_law_take (hr.mono (by decide)) (by rfl) Tp.g_law_take Tp.F_law_take.kp Tp.b_law_take .nil pass0 (pa_cons (pv 0) (pa_cons pe_int pa_nil))) (pa_cons (pe_call G_law_take (hr.mono (by decide)) (by rfl) Tp.g_law_take Tp.F_law_take.kp Tp.b_law_take .nil pass0 (pa_cons (pv 0) (pa_cons pe_int pa_nil))) (pa_cons (pe_call G_law_take (hr.mono (by decide)) (by rfl) Tp.g_law_take Tp.F_law_take.kp Tp.b_law_take .nil pass0 (pa_cons (pv 0) (pa_cons pe_int pa_nil))) pa_nil))))) (pa_cons (pe_call G_law_part (hr.mono (by decide)) (by rfl) Tp.g_law_part Tp.F_law_part.kp Tp.b_law_part .nil pass0 (pa_cons (pv 0) (pa_cons pe_int pa_nil))) pa_nil))) pa_nil))))))
      (pss_one (ps_expr (pe_bm PySem.F.plainAttrs_list PySem.F.slot_list_append PySem.F.type_list_append mt_append (pv 1) (pa_cons (pe_tup (pa_cons (pe_callTy call_tuple_of (by rfl) Tp.n_tuple (by decide +kernel) (pa_cons (pv 4) pa_nil)) (pa_cons (pe_callTy call_tuple_of (by rfl) Tp.n_tuple (by decide +kernel) (pa_cons (pv 5) pa_nil)) (pa_cons (pe_callTy call_tuple_of (by rfl) Tp.n_tuple (by decide +kernel) (pa_cons (pv 6) pa_nil)) pa_nil)))) pa_nil)))))))))
      (pss_one (ps_ret (pe_callTy call_tuple_of (by rfl) Tp.n_tuple (by decide +kernel) (pa_cons (pv 1) pa_nil)))))), body_N ?_ h⟩
  refine fun ds C Z Po r p J hf zp => ?_
  obtain ⟨rfl, ok, rfl, rfl⟩ := r
  walk_at "norm"
  have z9 : ∀ m : Int, m.natAbs < 2 ^ 10 → m.natAbs < 2 ^ 8500 := fun m h => sz_le h (by decide)
  have z7 : ∀ m : Int, m.natAbs < 2 ^ 10 → m.natAbs < 2 ^ 7000 := fun m h => sz_le h (by decide)
  refine s_preN ?_
  refine s_newL fun q h1 => ?_
  have p1 : q ≠ p := fun z => h1 (.inl z)
  have n1 : ¬ J.foot q := fun z => h1 (.inr z)
  have hfq : ∀ {X}, ¬ (lJ K q X J).foot p := fun {X} z => by
    rcases z with z | z
    · exact p1 z.symm
    · exact hf z
  refine s_pre (I' := dJ K p C (lJ K q [] J)) (fun G H z => ⟨z.2.1, z.1, z.2.2⟩) ?_
  obtain ⟨o1, t1, t2⟩ := take_ok (C := C) (m := 4) ok (by decide)
  obtain ⟨N, hN⟩ : ∃ N : Nat, (take C 4).1 = (N : Nat) := ⟨_, (Int.toNat_of_nonneg t1).symm⟩
  have hN3 : N ≤ 3 := by omega
  refine s_loopN (α := List St3 × DS) (n := N) (xs := fun i => .int (i : Nat)) (fun i a => (∀ s ∈ a.1, StG s) ∧ a.1.length = i ∧ DOk a.2) (fun _ => [some (.r p), some (.r q), none, none, none, none, none, none]) (fun a => dJ K p a.2 (lJ K q (a.1.map stepD) J)) ([], (take C 4).2) ⟨fun _ h => (nomatch h), rfl, o1⟩ (iw_r (a_cons (e_is (e_draw (R := RTake) (ds := [.i 4]) (C := C) (by walk_at "ev") ⟨_, rfl, ok, by decide, z9 4 (by decide), rfl, rfl⟩ hfq) (by rw [hN])) a_nil) (by omega)) rfl (fun i a hi hw => ⟨_, g_name, .inl ?_⟩) fun a hw => ?_
  rotate_left
  · obtain ⟨rs, C'⟩ := a
    obtain ⟨w1, w2, w3⟩ := hw
    replace w1 : ∀ s ∈ rs, StG s := w1
    replace w2 : rs.length = N := w2
    refine s_pre (I' := lJ K q (rs.map stepD) (dJ K p C' J)) (fun G H z => ⟨z.2.1, z.1, z.2.2⟩) ?_
    refine s_freeze (i := 1) rfl (fun z => by rcases z with z | z; exact p1 z; exact n1 z) ?_
    exact s_retN (C' := C') (p_ret (e_tupOf (ds := rs.map stepD) (p_cons (e_var rfl) a_nil))) ⟨w3, rs, rfl, w1, by omega⟩
  obtain ⟨rs, C1⟩ := a
  obtain ⟨w1, w2, ok1⟩ := hw
  replace w1 : ∀ s ∈ rs, StG s := w1
  replace w2 : rs.length = i := w2
  replace ok1 : DOk C1 := ok1
  -- pushes
  obtain ⟨o2, t3, t4⟩ := take_ok (C := C1) (m := 3) ok1 (by decide)
  obtain ⟨N1, hN1⟩ : ∃ N : Nat, (take C1 3).1 = (N : Nat) := ⟨_, (Int.toNat_of_nonneg t3).symm⟩
  have b1 : N1 ≤ 2 := by omega
  refine s_asgN (en_lcN (n := N1) (xs := fun i => .int (i : Nat)) (C := (take C1 3).2) (J := lJ K q (rs.map stepD) J) (fun j es C => ∃ vs : List (Nat × F × F), es = vs.map pushD ∧ vs.length = j ∧ DOk C ∧ ∀ v ∈ vs, PG v) ⟨[], rfl, rfl, o2, fun _ h => nomatch h⟩ hfq (iw_r (a_cons (e_is (e_draw (R := RTake) (ds := [.i 3]) (C := C1) (by walk_at "ev") ⟨_, rfl, ok1, by decide, z9 3 (by decide), rfl, rfl⟩ hfq) (by rw [hN1])) a_nil) (by omega)) (by omega) (fun j es C ⟨vs, e, h, _⟩ => by rw [e, List.length_map, h]) fun j es C hj ⟨vs, e, h, okc, hv⟩ => ⟨_, w_name List.mem_cons_self, fun J' hJ' => ?_⟩) fun d L hd => ?_
  · obtain ⟨o3, t5, t6⟩ := take_ok (C := C) (m := 3) okc (by decide)
    obtain ⟨T, hT⟩ : ∃ T : Nat, (take C 3).1 = (T : Nat) := ⟨_, (Int.toNat_of_nonneg t5).symm⟩
    obtain ⟨o4, g1, g2⟩ := vec40 (C := (take C 3).2) (m := 40) o3 (by decide) (by decide)
    refine en_of (d := .d (pushD (3 * j + T, (vecM (take C 3).2 40).1))) (J := dJ K p (vecM (take C 3).2 40).2 J') (e_is (e_tup (ds := [.i (3 * ((j : Nat) : Int) + (take C 3).1), .d (vD (vecM (take C 3).2 40).1)]) (a_cons (e_add (i := 3 * ((j : Nat) : Int)) (j := (take C 3).1) (e_mul e_int (e_var rfl) (mulW (m := 2) (n := 4) (by decide) (by omega) (by decide))) (e_draw (R := RTake) (ds := [.i 3]) (C := C) (by walk_at "ev") ⟨_, rfl, okc, by decide, z9 3 (by decide), rfl, rfl⟩ hJ')) (a_cons (e_draw (R := RVec) (ds := [.i 40]) (by walk_at "ev") ⟨_, rfl, o3, by decide, z7 40 (by decide), rfl, rfl⟩ hJ') a_nil)) (.cons (.cons .nil)) (show 2 ≤ 100000 by decide)) ?_) ⟨_, _, rfl, ⟨vs ++ [(3 * j + T, (vecM (take C 3).2 40).1)], by rw [e, List.map_append]; rfl, by rw [List.length_append, h]; rfl, o4, fun v hv2 => ?_⟩, rfl⟩
    · rw [hT]; rfl
    · rcases List.mem_append.mp hv2 with hv2 | hv2
      · exact hv v hv2
      · rw [List.mem_singleton.mp hv2]
        exact ⟨show 3 * j + T < 10 by omega, g1, g2⟩
  obtain ⟨es, C2, ⟨ps, rfl, lps, ok2, gps⟩, rfl, rfl⟩ := hd
  -- speeds
  obtain ⟨o5, t7, t8⟩ := take_ok (C := C2) (m := 4) ok2 (by decide)
  obtain ⟨N2, hN2⟩ : ∃ N : Nat, (take C2 4).1 = (N : Nat) := ⟨_, (Int.toNat_of_nonneg t7).symm⟩
  have b2 : N2 ≤ 3 := by omega
  refine s_asgN (en_lcN (n := N2) (xs := fun i => .int (i : Nat)) (C := (take C2 4).2) (J := lJ K q (rs.map stepD) J) (fun j es C => ∃ vs : List (F × F), es = vs.map vD ∧ vs.length = j ∧ DOk C ∧ ∀ v ∈ vs, SG_ v) ⟨[], rfl, rfl, o5, fun _ h => nomatch h⟩ hfq (iw_r (a_cons (e_is (e_draw (R := RTake) (ds := [.i 4]) (C := C2) (by walk_at "ev") ⟨_, rfl, ok2, by decide, z9 4 (by decide), rfl, rfl⟩ hfq) (by rw [hN2])) a_nil) (by omega)) (by omega) (fun j es C ⟨vs, e, h, _⟩ => by rw [e, List.length_map, h]) fun j es C hj ⟨vs, e, h, okc, hv⟩ => ⟨_, w_name List.mem_cons_self, fun J' hJ' => ?_⟩) fun d L hd => ?_
  · obtain ⟨o4, g1, g2⟩ := vec40 (C := C) (m := 40) okc (by decide) (by decide)
    refine en_of (d := .d (vD (vecM C 40).1)) (J := dJ K p (vecM C 40).2 J') (e_draw (R := RVec) (ds := [.i 40]) (by walk_at "ev") ⟨_, rfl, okc, by decide, z7 40 (by decide), rfl, rfl⟩ hJ') ⟨_, _, rfl, ⟨vs ++ [(vecM C 40).1], by rw [e, List.map_append]; rfl, by rw [List.length_append, h]; rfl, o4, fun v hv2 => ?_⟩, rfl⟩
    rcases List.mem_append.mp hv2 with hv2 | hv2
    · exact hv v hv2
    · rw [List.mem_singleton.mp hv2]
      exact ⟨g1, g2⟩
  obtain ⟨es, C3, ⟨ss, rfl, lss, ok3, gss⟩, rfl, rfl⟩ := hd
  -- forces
  refine s_newL fun q2 h2 => ?_
  have p2 : q2 ≠ p := fun z => h2 (.inl z)
  have n2 : ¬ (lJ K q (rs.map stepD) J).foot q2 := fun z => h2 (.inr z)
  have qq : q ≠ q2 := fun z => n2 (.inl z.symm)
  have hf2 : ∀ {X}, ¬ (lJ K q2 X (lJ K q (rs.map stepD) J)).foot p := fun {X} z => by
    rcases z with z | z
    · exact p2 z.symm
    · exact hfq z
  refine s_pre (I' := (dJ K p C3 (lJ K q2 (([] : List (Nm4 × F)).map forceD) (lJ K q (rs.map stepD) J)))) (fun G H z => ⟨z.2.1, z.1, z.2.2⟩) ?_
  obtain ⟨o6, t9, t10⟩ := take_ok (C := C3) (m := 4) ok3 (by decide)
  obtain ⟨N3, hN3⟩ : ∃ N : Nat, (take C3 4).1 = (N : Nat) := ⟨_, (Int.toNat_of_nonneg t9).symm⟩
  have b3 : N3 ≤ 3 := by omega
  refine s_loopN (α := List (Nm4 × F) × DS) (n := N3) (xs := fun i => .int (i : Nat)) (fun j a => (∀ v ∈ a.1, FG v) ∧ a.1.length = j ∧ DOk a.2) (fun _ => [some (.r p), some (.r q), some (.i (i : Nat)), none, some (.l (ps.map pushD)), some (.l (ss.map vD)), some (.r q2), none]) (fun a => (dJ K p a.2 (lJ K q2 (a.1.map forceD) (lJ K q (rs.map stepD) J)))) ([], (take C3 4).2) ⟨fun _ h => (nomatch h), rfl, o6⟩ (iw_r (a_cons (e_is (e_draw (R := RTake) (ds := [.i 4]) (C := C3) (by walk_at "ev") ⟨_, rfl, ok3, by decide, z9 4 (by decide), rfl, rfl⟩ hf2) (by rw [hN3])) a_nil) (by omega)) rfl (fun j a hj hw => ⟨_, g_name, .inl ?_⟩) fun a hw => ?_
  · obtain ⟨fs, C4⟩ := a
    obtain ⟨v1, v2, ok4⟩ := hw
    replace v1 : ∀ v ∈ fs, FG v := v1
    replace v2 : fs.length = j := v2
    replace ok4 : DOk C4 := ok4
    obtain ⟨o7, u1, u2⟩ := take_ok (C := C4) (m := 2) ok4 (by decide)
    obtain ⟨kd, hk, gk⟩ : ∃ kd : List Nat, atI [PyData.str (sx wApart), .str (sx wJoint)] (take C4 2).1 = some (.str (sx kd)) ∧ (kd = wApart ∨ kd = wJoint) := by
      have e : (take C4 2).1 = 0 ∨ (take C4 2).1 = 1 := by omega
      rcases e with e | e <;> rw [e]
      · exact ⟨_, rfl, .inl rfl⟩
      · exact ⟨_, rfl, .inr rfl⟩
    refine s_seq (s_asg (d := .d (.str (sx kd))) (e_ixT' (x := .str (sx kd)) (ds := [.str (sx wApart), .str (sx wJoint)]) (e_tup (ds := [.d (.str (sx wApart)), .d (.str (sx wJoint))]) (a_cons (e_is e_str (by rw [st_apart])) (a_cons (e_is e_str (by rw [st_joint])) a_nil)) (.cons (.cons .nil)) (show 2 ≤ 100000 by decide)) (e_draw (R := RTake) (ds := [.i 2]) (C := C4) (by walk_at "ev") ⟨_, rfl, ok4, by decide, z9 2 (by decide), rfl, rfl⟩ hf2) hk)) ?_
    generalize (take C4 2).2 = C5 at o7
    obtain ⟨o8, x1, x2⟩ := take_ok (C := C5) (m := 9) o7 (by decide)
    obtain ⟨o9, x3, x4⟩ := take_ok (C := (take C5 9).2) (m := 99) o8 (by decide)
    obtain ⟨o10, x5, x6⟩ := take_ok (C := (take (take C5 9).2 99).2) (m := 2) o9 (by decide)
    obtain ⟨o11, g1⟩ := part40 (C := (take (take (take C5 9).2 99).2 2).2) (m := 30) o10 (by decide) (by decide)
    obtain ⟨A1, e1⟩ : ∃ T : Nat, (take C5 9).1 = (T : Nat) := ⟨_, (Int.toNat_of_nonneg x1).symm⟩
    obtain ⟨A2, e2⟩ : ∃ T : Nat, (take (take C5 9).2 99).1 = (T : Nat) := ⟨_, (Int.toNat_of_nonneg x3).symm⟩
    obtain ⟨A3, e3⟩ : ∃ T : Nat, (take (take (take C5 9).2 99).2 2).1 = (T : Nat) := ⟨_, (Int.toNat_of_nonneg x5).symm⟩
    refine s_ne (ρ1 := [some (.r p), some (.r q), some (.i (i : Nat)), none, some (.l (ps.map pushD)), some (.l (ss.map vD)), some (.r q2), none]) (J := (dJ K p (partM (take (take (take C5 9).2 99).2 2).2 30).2 (lJ K q2 ((fs ++ [((⟨kd, A1, A2, A3⟩, (partM (take (take (take C5 9).2 99).2 2).2 30).1) : Nm4 × F)]).map forceD) (lJ K q (rs.map stepD) J)))) ?_ ⟨(fs ++ [(⟨kd, A1, A2, A3⟩, (partM (take (take (take C5 9).2 99).2 2).2 30).1)], (partM (take (take (take C5 9).2 99).2 2).2 30).2), ⟨fun v hv => ?_, by rw [List.length_append, v2]; rfl, o11⟩, rfl, rfl⟩
    rotate_left
    · rcases List.mem_append.mp hv with hv | hv
      · exact v1 v hv
      · rw [List.mem_singleton.mp hv]
        exact ⟨gk, show A1 < 10 by omega, show A2 < 100 by omega, show A3 < 10 by omega, g1⟩
    refine s_lessN (ρ' := [some (.r p), some (.r q), some (.i (i : Nat)), some (.i (j : Nat)), some (.l (ps.map pushD)), some (.l (ss.map vD)), some (.r q2), some (.d (.str (sx kd)))]) ⟨.inr rfl, .inr rfl, .inr rfl, .inl rfl, .inr rfl, .inr rfl, .inr rfl, .inl rfl, trivial⟩ ?_
    rw [List.map_append]
    refine s_appD (x := forceD (⟨kd, A1, A2, A3⟩, (partM (take (take (take C5 9).2 99).2 2).2 30).1)) (e_is (e_tup (ds := [.t [.str (sx kd), .int (take C5 9).1, .int (take (take C5 9).2 99).1, .int (take (take (take C5 9).2 99).2 2).1], .d (fr (partM (take (take (take C5 9).2 99).2 2).2 30).1)]) (xs := [.tuple [.str (sx kd), .int (take C5 9).1, .int (take (take C5 9).2 99).1, .int (take (take (take C5 9).2 99).2 2).1], fr (partM (take (take (take C5 9).2 99).2 2).2 30).1]) (a_cons (e_tup (ds := [.d (.str (sx kd)), .i (take C5 9).1, .i (take (take C5 9).2 99).1, .i (take (take (take C5 9).2 99).2 2).1]) (a_cons (e_var rfl) (a_cons (e_draw (R := RTake) (ds := [.i 9]) (C := C5) (by walk_at "ev") ⟨_, rfl, o7, by decide, z9 9 (by decide), rfl, rfl⟩ hf2) (a_cons (e_draw (R := RTake) (ds := [.i 99]) (C := (take C5 9).2) (by walk_at "ev") ⟨_, rfl, o8, by decide, z9 99 (by decide), rfl, rfl⟩ hf2) (a_cons (e_draw (R := RTake) (ds := [.i 2]) (C := (take (take C5 9).2 99).2) (by walk_at "ev") ⟨_, rfl, o9, by decide, z9 2 (by decide), rfl, rfl⟩ hf2) a_nil)))) (.cons (.cons (.cons (.cons .nil)))) (show 4 ≤ 100000 by decide)) (a_cons (e_draw (R := RPart) (ds := [.i 30]) (by walk_at "ev") ⟨_, rfl, o10, by decide, z7 30 (by decide), rfl, rfl⟩ hf2) a_nil)) (.cons (.cons .nil)) (show 2 ≤ 100000 by decide)) (by rw [e1, e2, e3])) rfl (show (fs.map forceD).length < 100000 by rw [List.length_map, v2]; omega) n2 p2
  obtain ⟨fs, C4⟩ := a
  obtain ⟨v1, v2, ok4⟩ := hw
  replace v1 : ∀ v ∈ fs, FG v := v1
  replace v2 : fs.length = N3 := v2
  replace ok4 : DOk C4 := ok4
  refine s_pre (I' := lJ K q2 (fs.map forceD) (dJ K p C4 (lJ K q (rs.map stepD) J))) (fun G H z => ⟨z.2.1, z.1, z.2.2⟩) ?_
  refine s_freeze (i := 6) rfl (fun z => by rcases z with z | z; exact p2 z; exact n2 z) ?_
  refine s_ne (ρ1 := [some (.r p), some (.r q), none, none, none, none, none, none]) (J := dJ K p C4 (lJ K q ((rs ++ [(⟨ps, ss, fs⟩ : St3)]).map stepD) J)) ?_ ⟨(rs ++ [⟨ps, ss, fs⟩], C4), ⟨fun s hs => ?_, by rw [List.length_append, w2]; rfl, ok4⟩, rfl, rfl⟩
  rotate_left
  · rcases List.mem_append.mp hs with hs | hs
    · exact w1 s hs
    · rw [List.mem_singleton.mp hs]
      exact ⟨gps, gss, v1, by show ps.length ≤ 2; omega, by show ss.length ≤ 3; omega, by show fs.length ≤ 3; omega⟩
  refine s_lessN (ρ' := [some (.r p), some (.r q), some (.i (i : Nat)), none, some (.l (ps.map pushD)), some (.l (ss.map vD)), some (.d (.list (fs.map forceD))), none]) ⟨.inr rfl, .inr rfl, .inl rfl, .inr rfl, .inl rfl, .inl rfl, .inl rfl, .inr rfl, trivial⟩ ?_
  rw [List.map_append]
  exact s_appD (x := stepD ⟨ps, ss, fs⟩) (e_tup (ds := [.t (ps.map pushD), .t (ss.map vD), .t (fs.map forceD)]) (a_cons (e_tupOf (p_cons (e_l2d (e_var rfl)) a_nil)) (a_cons (e_tupOf (p_cons (e_l2d (e_var rfl)) a_nil)) (a_cons (e_tupOf (p_cons (e_var rfl) a_nil)) a_nil))) (.cons (.cons (.cons .nil))) (show 3 ≤ 100000 by decide)) rfl (by rw [List.length_map]; omega) n1 p1
theorem fok_read_run (Tp : Top K mg base) : FnOk P w K mg base (L2.CX P w) 6 Tp.f_read_run Tp.d_read_run ["text"] (spXT K Tp.tabs (RRr Tp.c_TextError)) := by
  have G_lines_of := fok_lines_of (P := P) (w := w) (base := base) Tp
  have G_read_part := fok_read_part (P := P) (w := w) (base := base) Tp
  refine Tp.F_read_run.okX sc_read_run (fun vs H Q E h => len_X (fun _ _ ⟨_, e, _⟩ => by rw [e]; rfl) h) (fun cdv A outer s H vs Q E hr h => ?_)
  refine ⟨_, (pss_cons (ps_set (i := 1) sc_read_run.nd rfl (.inl rfl) (pe_lst pa_nil))
      (pss_cons (ps_set (i := 2) sc_read_run.nd rfl (.inl rfl) pe_int)
      (pss_cons (ps_for (passes_of rfl) rfl (pi_list (pe_call G_lines_of (hr.mono (by decide)) (by rfl) Tp.g_lines_of Tp.F_lines_of.kp Tp.b_lines_of .nil (passes_call (takes_of rfl rfl rfl rfl) (fun _ _ _ _ z => z)) (pa_cons (pv 0) pa_nil))) (pg_name (i := 3) sc_read_run.nd rfl (.inl rfl)) (pss_cons (ps_set (i := 4) sc_read_run.nd rfl (.inl rfl) (pe_ix (r := rIxL K) ix_list (pe_split (pv 3) pe_str) pe_int (fun _ _ => rfl)))
      (pss_one (ps_if (pt_cmpR (op_eqD hr.units) (pv 3) pe_str (nomark _)) (pss_cons (ps_expr (pe_bm PySem.F.plainAttrs_list PySem.F.slot_list_append PySem.F.type_list_append mt_append (pv 1) (pa_cons (pe_tup (pa_cons (pe_lst pa_nil) (pa_cons (pe_lst pa_nil) (pa_cons (pe_lst pa_nil) pa_nil)))) pa_nil)))
      (pss_one (ps_set (i := 2) sc_read_run.nd rfl (.inl rfl) pe_int))) (pss_one (ps_if (PW.pt (pw_or (pt_cmpR (op_eqD hr.units) (pv 1) (pe_lst pa_nil) (nomark _)) (pw_or1 (pt_cmpR (op_notInTD (hu65 hr)) (pv 4) (pe_slice (r := rSlA K) sl_tupA (pe_glob (v := .ref Tp.k_PART_WORDS) (by rfl) Tp.gk_PART_WORDS rfl) (po_some (pv 2)) po_none) rfl)))) (pss_one (ps_raise rfl (takes_of rfl rfl rfl rfl) (pmk_own PySem.F.excBase_ValueError Tp.xc_TextError Tp.gc_TextError Tp.kc_TextError (raises_own Tp.bc_TextError Tp.tc_TextError) rfl))) (pss_cons (ps_set (i := 2) sc_read_run.nd rfl (.inl rfl) (pe_bm PySem.F.plainAttrs_tuple PySem.F.slot_tuple_index PySem.F.type_tuple_index mt_tup_index (pe_glob (v := .ref Tp.k_PART_WORDS) (by rfl) Tp.gk_PART_WORDS rfl) (pa_cons (pv 4) pa_nil)))
      (pss_one (ps_expr (pe_bm PySem.F.plainAttrs_list PySem.F.slot_list_append PySem.F.type_list_append mt_append (pe_ix (r := rIxT K) ix_tup (pe_ix (r := rIxL K) ix_list (pv 1) (pe_un un_neg pe_int) (fun _ _ => rfl)) (pv 2) (fun _ _ => rfl)) (pa_cons (pe_call G_read_part (hr.mono (by decide)) (by rfl) Tp.g_read_part Tp.F_read_part.kp Tp.b_read_part .nil (passes_call (takes_of rfl rfl rfl rfl) (fun _ _ _ _ z => z)) (pa_cons (pv 4) (pa_cons (pv 3) pa_nil))) pa_nil)))))))))))
      (pss_one (ps_ret (pe_callTy call_tuple_of (by rfl) Tp.n_tuple (by decide +kernel) (pa_cons (pe_lc (own := [("pushes", 5), ("speeds", 6), ("forces", 7)]) (g := (gTup K 3 (gCons (gName 5) (gCons (gName 6) (gCons (gName 7) gNil))))) (tt := tYes) rfl sc_read_run.nd (pi_list (pv 1)) (blkOk_by (N := ["text", "steps", "part", "line", "word", "pushes", "speeds", "forces"]) (sc := defScope s_read_run) (by decide +kernel)) (fun _ _ _ _ _ => (pg_tup rfl (pgs_cons (pg_name (i := 5) sc_read_run.nd rfl (Or.inl rfl)) (pgs_cons (pg_name (i := 6) sc_read_run.nd rfl (Or.inl rfl)) (pgs_cons (pg_name (i := 7) sc_read_run.nd rfl (Or.inl rfl)) pgs_nil))))) (fun _ _ _ _ _ => pts_nil) (fun _ _ _ _ _ => (pe_tup (pa_cons (pe_callTy (T := "tuple") (r := rTupOf K) call_tuple_of (by rfl) Tp.n_tuple (by decide +kernel) (pa_cons (pv 5) pa_nil)) (pa_cons (pe_callTy (T := "tuple") (r := rTupOf K) call_tuple_of (by rfl) Tp.n_tuple (by decide +kernel) (pa_cons (pv 6) pa_nil)) (pa_cons (pe_callTy (T := "tuple") (r := rTupOf K) call_tuple_of (by rfl) Tp.n_tuple (by decide +kernel) (pa_cons (pv 7) pa_nil)) pa_nil)))))) pa_nil))))))), body_XT ?_ h⟩
  refine fun ds r hr I hT hx => ?_
  obtain ⟨l, rfl, tl, hl, hr⟩ := hr
  walk_at "norm"
  have EQ : ∀ {I : Asn} {ρ : Rho} {ta : TE} {m k : List Nat} {z : Str}, z = sx k → Tx m → Tx k → PL.E K ta ρ I (.d (.str (sx m))) I → PL.T K (tTest (tOp (rEqD K) ta (tC (.str z)))) ρ I (decide (m = k)) I := fun hz hm hk e => by
    subst hz
    exact t_is (p_test (p_eqD (x := .str (sx _)) (y := .str (sx _)) e e_str (sh_str hm) (sh_str hk))) (eqv_s _ _)
  refine s_newL fun q hq => ?_
  refine q_asg (d := .i 0) e_int ?_
  cases eL : lns l with
  | none =>
    have er : r = .err Tp.c_TextError := by
      rcases hr with ⟨_, e⟩ | ⟨z, e, _⟩
      · exact e
      · unfold rdRun at e; rw [eL] at e; cases e
    subst er
    have hbad : l ≠ [] ∧ l.getLast? ≠ some 10 := by
      unfold lns at eL
      by_cases c : l = []
      · rw [if_pos c] at eL; cases eL
      · rw [if_neg c] at eL
        by_cases d : l.getLast? = some 10
        · rw [if_pos d] at eL; cases eL
        · exact ⟨c, d⟩
    exact s_loop (α := Unit) (n := 0) (xs := fun _ => .none) (fun _ _ => True) (fun _ => [some (.d (.str (sx l))), some (.r q), some (.i (0)), none, none, none, none, none]) (fun _ => .no) () trivial (iw_ll (ds := []) (e_callE (R := RLo Tp.c_TextError) (ds := [.d (.str (sx l))]) (L := .no) (p_cons (e_var rfl) a_nil) ⟨l, rfl, tl, hl, .inr (.inl ⟨hbad.1, hbad.2, rfl⟩)⟩ fun G H io => hx _ rfl G H io.2)) rfl (fun i _ hi => absurd hi (Nat.not_lt_zero _)) fun _ _ => s_no
  | some ls =>
  have hLo : RLo Tp.c_TextError [.d (.str (sx l))] (.ok (.l (strL ls))) := by
    refine ⟨l, rfl, tl, hl, ?_⟩
    unfold lns at eL
    by_cases c : l = []
    · rw [if_pos c] at eL; cases eL; exact .inl ⟨c, rfl⟩
    · rw [if_neg c] at eL
      by_cases d : l.getLast? = some 10
      · rw [if_pos d] at eL; cases eL; exact .inr (.inr ⟨d, rfl⟩)
      · rw [if_neg d] at eL; cases eL
  have hls : ls.length ≤ 60000 ∧ ∀ m ∈ ls, Tx m ∧ m.length ≤ 50000 := by
    unfold lns at eL
    by_cases c : l = []
    · rw [if_pos c] at eL; cases eL; exact ⟨by decide, fun _ h => nomatch h⟩
    · rw [if_neg c] at eL
      by_cases d : l.getLast? = some 10
      · rw [if_pos d] at eL; cases eL
        have h1 := splC_len 10 l.dropLast
        have td : Tx l.dropLast := fun c hc => tl c (List.dropLast_subset _ hc)
        rw [List.length_dropLast] at h1
        refine ⟨by omega, fun m hm => ⟨splC_tx 10 td m hm, ?_⟩⟩
        have := splC_sub 10 l.dropLast m hm
        rw [List.length_dropLast] at this
        omega
      · rw [if_neg d] at eL; cases eL
  obtain ⟨R, eR⟩ : ∃ R, R = runL none ls := ⟨_, rfl⟩
  have hr2 : (R = none ∧ r = .err Tp.c_TextError) ∨ ∃ s, R = some s ∧ r = .ok (.d (runD (stepsOf s))) := by
    have e0 : rdRun l = R.map stepsOf := by unfold rdRun; rw [eL, eR]; rfl
    rw [e0] at hr
    rcases hr with ⟨h1, h2⟩ | ⟨x, h1, h2⟩
    · exact .inl ⟨Option.map_eq_none_iff.mp h1, h2⟩
    · obtain ⟨s, hs, e⟩ := Option.map_eq_some_iff.mp h1
      exact .inr ⟨s, hs, by rw [h2, e]⟩
  have hkr : (outR I r).ret := by cases r <;> first | exact ret_rt | exact ret_fin
  refine s_loopN (α := Option (A4 × RS)) (fun i a => runL (curR a) (ls.drop i) = R ∧ Ord (curR a) ∧ ∀ z, a = some z → GoodR q I i z) (fun a => [some (.d (.str (sx l))), some (.r q), some (.i (((partR a : Nat) : Int))), none, none, none, none, none]) (asnR K q I) none ⟨by rw [eR]; rfl, trivial, fun z h => nomatch h⟩ (iw_ll (ds := strL ls) (e_callX (R := RLo Tp.c_TextError) (ds := [.d (.str (sx l))]) (p_cons (e_var rfl) a_nil) hLo)) rfl (fun i a hi hw => ?_) fun a hw => ?_
  · rw [List.length_map] at hi
    obtain ⟨w1, w2, w3⟩ := hw
    have em : at0 (strL ls) i = .str (sx ls[i]) := at0_map (List.getElem?_eq_getElem hi)
    obtain ⟨tm, lm⟩ := hls.2 _ (List.getElem_mem hi)
    rw [em]
    rw [List.drop_eq_getElem_cons hi] at w1
    generalize ls[i] = m at w1 tm lm
    obtain ⟨P0, pq, eS⟩ := splC_ne 32 m
    have ew : word m = P0 := by unfold word; rw [eS]; rfl
    have tw : Tx (word m) := splC_tx 32 tm _ (by rw [eS, ew]; exact List.mem_cons_self)
    refine ⟨_, g_name, ?_⟩
    refine .inl ?_
    refine q_asg (d := .d (.str (sx (word m)))) (e_ixL (j := 0) (x := .str (sx (word m))) (ds := strL (splC 32 m)) (e_l2d (e_is (e_splitS (e_var rfl) e_str (by rfl) (by rw [sx_len]; omega)) (by rw [st_sp1, splitC_list, List.map_map]; rfl))) e_int (by rw [eS, ew]; rfl)) ?_
    have tS : Tx wStep := by decide
    by_cases c : m = wStep
    · have en : nextL (curR a) m = some ⟨stepsOf (curR a), ⟨[], [], []⟩, 0⟩ := if_pos c
      refine q_ifT (EQ st_step tm tS (e_var rfl)) (decide_eq_true c) ?_
      have fin : ∀ w : A4, w.ok q → (∀ z, z = w.a ∨ z = w.b ∨ z = w.c → ¬ I.foot z) → (stepsOf (curR a)).length ≤ i + 1 → ∃ a', (runL (curR a') (ls.drop (i + 1)) = R ∧ Ord (curR a') ∧ ∀ z, a' = some z → GoodR q I (i + 1) z) ∧ ([some (.d (.str (sx l))), some (.r q), some (.i (0)), none, none, none, none, none] : Rho) = [some (.d (.str (sx l))), some (.r q), some (.i (((partR a' : Nat) : Int))), none, none, none, none, none] ∧ sJ K q w ((stepsOf (curR a)).map stepL) ⟨[], [], []⟩ I = asnR K q I a' := fun w hw nf hlen => by
        refine ⟨some (w, ⟨stepsOf (curR a), ⟨[], [], []⟩, 0⟩), ⟨?_, (nextL_back w2 en).1, fun z hz => ?_⟩, rfl, rfl⟩
        · rw [← w1]
          show runL (some ⟨stepsOf (curR a), ⟨[], [], []⟩, 0⟩) _ = runL (curR a) (m :: _)
          rw [show runL (curR a) (m :: ls.drop (i + 1)) = runL (some ⟨stepsOf (curR a), ⟨[], [], []⟩, 0⟩) (ls.drop (i + 1)) by rw [runL, en]]
        · cases hz
          exact ⟨hw, nf, (show (0 : Nat) < 3 by decide), hlen, by simp, by simp, by simp⟩
      have done : ∀ w : A4, w.ok q → (∀ z, z = w.a ∨ z = w.b ∨ z = w.c → ¬ I.foot z) → (stepsOf (curR a)).length ≤ i + 1 → S K (tAsg (tC (.int 0)) (gName 2)) [some (.d (.str (sx l))), some (.r q), some (.i (((partR a : Nat) : Int))), some (.d (.str (sx m))), some (.d (.str (sx (word m)))), none, none, none] (sJ K q w ((stepsOf (curR a)).map stepL) ⟨[], [], []⟩ I) (.ne fun r L => ∃ a', (runL (curR a') (ls.drop (i + 1)) = R ∧ Ord (curR a') ∧ ∀ z, a' = some z → GoodR q I (i + 1) z) ∧ r = [some (.d (.str (sx l))), some (.r q), some (.i (((partR a' : Nat) : Int))), none, none, none, none, none] ∧ L = asnR K q I a') := fun w hw nf hlen => by
        refine s_ne (ρ1 := [some (.d (.str (sx l))), some (.r q), some (.i (0)), none, none, none, none, none]) (J := sJ K q w ((stepsOf (curR a)).map stepL) ⟨[], [], []⟩ I) (s_lessN (ρ' := [some (.d (.str (sx l))), some (.r q), some (.i (0)), some (.d (.str (sx m))), some (.d (.str (sx (word m)))), none, none, none]) ⟨.inr rfl, .inr rfl, .inr rfl, .inl rfl, .inl rfl, .inr rfl, .inr rfl, .inr rfl, trivial⟩ (p_asg e_int)) (fin w hw nf hlen)
      cases a with
      | none =>
        exact s_step (i := 1) rfl (by decide) hq fun w hw nf => done w hw nf (by simp [curR, stepsOf])
      | some a =>
        obtain ⟨w0, s⟩ := a
        have g := w3 _ rfl
        have hlen : (stepsOf (curR (some (w0, s)))).length ≤ i + 1 := by
          have := g.ld
          show (s.done ++ [s.cur]).length ≤ _
          rw [List.length_append, List.length_singleton]
          exact Nat.succ_le_succ this
        refine s_told (i := 1) g.ok g.nf ?_
        have e9 : s.done.map stepL ++ [(p3 s.cur).d] = (stepsOf (curR (some (w0, s)))).map stepL := by
          show _ = (s.done ++ [s.cur]).map stepL
          rw [List.map_append]
          rfl
        rw [e9]
        exact s_step (i := 1) rfl (by rw [List.length_map]; omega) hq fun w hw nf => done w hw nf hlen
    refine q_ifF (EQ st_step tm tS (e_var rfl)) (decide_eq_false c) ?_
    cases a with
    | none =>
      have en : nextL none m = none := by unfold nextL; rw [if_neg c]
      have eN : R = none := by
        rw [← w1]
        show runL none (m :: _) = none
        rw [runL, en]
      have er : r = .err Tp.c_TextError := by
        rcases hr2 with ⟨_, e⟩ | ⟨s, e, _⟩
        · exact e
        · rw [eN] at e; cases e
      subst er
      exact s_any (s_ifT (t_orT (t_noSteps (i := 1) rfl)) (s_raise' fun G H σ D gh io => hx _ rfl G H io.2))
    | some a =>
      obtain ⟨w0, s⟩ := a
      have g := w3 _ rfl
      have gpt : s.part < 3 := g.pt
      have kok : ∀ x ∈ s.done ++ [s.cur], KOk x := fun x hx v hv => ((w2.2.2 x hx).hf v hv).k
      have shS : SeqAt.shaped (.list (s.done.map stepL ++ [(p3 s.cur).d])) = true := by
        have := shaped_stepsL kok
        rw [List.map_append] at this
        exact this
      have shW : SeqAt.shaped (.tuple ((words3.drop s.part).map fun p => PyData.str (sx p))) = true := by
        have : s.part = 0 ∨ s.part = 1 ∨ s.part = 2 := by omega
        rcases this with e | e | e <;> rw [e] <;> decide +kernel
      have eA : (!((words3.drop s.part).map fun p => PyData.str (sx p)).any fun z => PyData.eqv z (.str (sx (word m)))) = !decide (word m ∈ words3.drop s.part) := by
        congr 1
        rw [Bool.eq_iff_iff, decide_eq_true_iff, List.any_eq_true]
        constructor
        · rintro ⟨z, hz, he⟩
          obtain ⟨p, hp, rfl⟩ := List.mem_map.mp hz
          rw [eqv_s, decide_eq_true_iff] at he
          rw [← he]
          exact hp
        · intro h
          exact ⟨_, List.mem_map.mpr ⟨_, h, rfl⟩, by rw [eqv_s]; exact decide_eq_true rfl⟩
      have TST : PL.T K _ [some (.d (.str (sx l))), some (.r q), some (.i (((s.part : Nat) : Int))), some (.d (.str (sx m))), some (.d (.str (sx (word m)))), none, none, none] (sJ K q w0 (s.done.map stepL) (p3 s.cur) I) (!decide (word m ∈ words3.drop s.part)) (sJ K q w0 (s.done.map stepL) (p3 s.cur) I) := t_is (t_orF (t_someSteps (i := 1) g.ok rfl shS) (p_test (e_notInT (y := .str (sx (word m))) (xs := (words3.drop s.part).map fun p => PyData.str (sx p)) (e_var (i := 4) rfl) (e_is (e_tFrom (j := s.part) (ds := words3.map fun p => PyData.str (sx p)) (e_is (e_glob (x := .tuple [.str (Str.ofString "push"), .str (Str.ofString "speed"), .str (Str.ofString "force")]) fun G => .tup (Tp.dk_PART_WORDS G) (.cons (.str _) (.cons (.str _) (.cons (.str _) .nil)))) (by rw [st_push, st_speed, st_force]; rfl)) (e_var (i := 2) rfl)) (by rw [← List.map_drop])) (sh_str tw) shW))) eA
      have eRun : R = match nextL (some s) m with
        | none => none
        | some x => runL (some x) (ls.drop (i + 1)) := by
        rw [← w1]
        show runL (some s) (m :: _) = _
        rw [runL]
        all_goals (cases nextL (some s) m <;> rfl)
      rcases nextL_word (s := s) c with ⟨n1, n2⟩ | nw
      · rw [n2] at eRun
        have er : r = .err Tp.c_TextError := by
          rcases hr2 with ⟨_, e⟩ | ⟨s, e, _⟩
          · exact e
          · rw [eRun] at e; cases e
        subst er
        exact s_any (q_ifT TST (by rw [decide_eq_false n1]; rfl) (s_raise' fun G H σ D gh io => hx _ rfl G H io.2))
      obtain ⟨j, j3, jp, jw, jm, n1, n2⟩ := nw gpt
      refine q_ifF TST (by rw [decide_eq_true jm]; rfl) ?_
      have jw2 : (words3.map sx)[j]? = some (sx (word m)) := by rw [List.getElem?_map, jw]; rfl
      refine q_asg (d := .i ((j : Nat) : Int)) (e_tindex (G0 := ()) (v := .non) (ys := words3.map sx) (z := sx (word m)) Tp.tk_PART_WORDS (fun G => by
        have := Tp.dk_PART_WORDS G
        rw [st_push, st_speed, st_force] at this
        exact this) (e_var rfl) jw2 fun k hk hh => ?_) ?_
      · rw [List.getElem?_map, Option.map_eq_some_iff] at hh
        obtain ⟨p, hp, e⟩ := hh
        have e := sx_inj e
        rw [e] at hp
        have : k = j := (List.getElem?_inj (by have := (List.getElem?_eq_some_iff.mp hp).1; exact this) (by decide : words3.Nodup)).mp (hp.trans jw.symm)
        omega
      have w3c : word m = wPush ∨ word m = wSpeed ∨ word m = wForce := by
        have := List.mem_of_getElem? jw
        unfold words3 at this
        rcases List.mem_cons.mp this with h | h
        · exact .inl h
        rcases List.mem_cons.mp h with h | h
        · exact .inr (.inl h)
        · exact .inr (.inr (List.mem_singleton.mp h))
      have AR : PL.A K _ [some (.d (.str (sx l))), some (.r q), some (.i (((j : Nat) : Int))), some (.d (.str (sx m))), some (.d (.str (sx (word m)))), none, none, none] (sJ K q w0 (s.done.map stepL) (p3 s.cur) I) [.d (.str (sx (word m))), .d (.str (sx m))] (sJ K q w0 (s.done.map stepL) (p3 s.cur) I) := p_cons (e_var (i := 4) rfl) (p_cons (e_var (i := 3) rfl) a_nil)
      cases eP : rdPart (word m) m with
      | none =>
        rw [n1 eP] at eRun
        have er : r = .err Tp.c_TextError := by
          rcases hr2 with ⟨_, e⟩ | ⟨s, e, _⟩
          · exact e
          · rw [eRun] at e; cases e
        subst er
        exact s_any (s_appSE (i := 1) j3 rfl (e_is (p_neg e_int) rfl) (e_var rfl) (e_callE (tabs := Tp.tabs) (R := RRp Tp.c_TextError) (d := .d .none) (L := .no) AR ⟨word m, m, rfl, tw, tm, lm, w3c, .inl ⟨eP, rfl⟩⟩ fun G H io => hx _ rfl G H io.2) fun _ _ z => z)
      | some x =>
        obtain ⟨s', n3, n4, n5, n6, n7, n8, n9⟩ := n2 x eP
        rw [n3] at eRun
        have glp := g.lp
        have gls := g.ls
        have glf := g.lf
        replace glp : s.cur.ps.length ≤ i := glp
        replace gls : s.cur.ss.length ≤ i := gls
        replace glf : s.cur.fs.length ≤ i := glf
        refine s_ne (ρ1 := [some (.d (.str (sx l))), some (.r q), some (.i (((j : Nat) : Int))), none, none, none, none, none]) (J := sJ K q w0 (s.done.map stepL) ((p3 s.cur).add j x) I) (s_lessN (ρ' := [some (.d (.str (sx l))), some (.r q), some (.i (((j : Nat) : Int))), some (.d (.str (sx m))), some (.d (.str (sx (word m)))), none, none, none]) ⟨.inr rfl, .inr rfl, .inr rfl, .inl rfl, .inl rfl, .inr rfl, .inr rfl, .inr rfl, trivial⟩ (s_appS (i := 1) g.ok g.nf j3 rfl (e_is (p_neg e_int) rfl) (e_var rfl) (e_callX (tabs := Tp.tabs) (R := RRp Tp.c_TextError) AR ⟨word m, m, rfl, tw, tm, lm, w3c, .inr ⟨x, eP, rfl⟩⟩) (fun _ _ z => z) ?_)) ⟨some (w0, s'), ⟨eRun.symm, (nextL_back w2 n3).1, fun z hz => ?_⟩, ?_, ?_⟩
        · have : j = 0 ∨ j = 1 ∨ j = 2 := by omega
          rcases this with e | e | e <;> rw [e] <;> (simp only [P3.at, List.length_map]; omega)
        · cases hz
          exact ⟨g.ok, g.nf, by show s'.part < 3; omega, by show s'.done.length ≤ _; rw [n5]; exact Nat.le_succ_of_le g.ld, by show s'.cur.ps.length ≤ _; omega, by show s'.cur.ss.length ≤ _; omega, by show s'.cur.fs.length ≤ _; omega⟩
        · show _ = ([some (.d (.str (sx l))), some (.r q), some (.i (((s'.part : Nat) : Int))), none, none, none, none, none] : Rho)
          rw [n4]
        · show _ = sJ K q w0 (s'.done.map stepL) (p3 s'.cur) I
          rw [n5, n6]
  obtain ⟨w1, w2, w3⟩ := hw
  rw [List.length_map, List.drop_of_length_le (Nat.le_refl _)] at w1
  replace w1 : some (curR a) = R := w1
  have er : r = .ok (.d (runD (stepsOf (curR a)))) := by
    rcases hr2 with ⟨e, _⟩ | ⟨s, e, h⟩
    · rw [← w1] at e; cases e
    · rw [← w1] at e
      rw [h, Option.some.inj e]
  subst er
  have hlen : (stepsOf (curR a)).length ≤ 70000 := by
    cases a with
    | none => exact Nat.zero_le _
    | some a =>
      have := (w3 _ rfl).ld
      rw [List.length_map] at this
      show (a.2.done ++ [a.2.cur]).length ≤ _
      rw [List.length_append, List.length_singleton]
      omega
  refine s_asnR w3 ?_
  refine s_freeze (i := 1) rfl hq (p_ret (e_tupOf (ds := (stepsOf (curR a)).map stepD) (p_cons (e_lcW (es := (stepsOf (curR a)).map stepD) (iw_l (ds := (stepsOf (curR a)).map stepL) (e_var rfl)) (by rw [List.length_map, List.length_map]) (by rw [List.length_map]; omega) fun i y hi hy => ?_) a_nil)))
  obtain ⟨s, hs, rfl⟩ := getElem?_of_map hy
  rw [at0_map hs]
  exact ⟨_, w_tup rfl (w_cons (w_name List.mem_cons_self) (w_cons (w_name (List.mem_cons_of_mem _ List.mem_cons_self)) (w_cons (w_name (List.mem_cons_of_mem _ (List.mem_cons_of_mem _ List.mem_cons_self))) w_nil))), fun I' => e_tup (a_cons (e_tupOf (ds := s.ps.map pushD) (p_cons (e_var rfl) a_nil)) (a_cons (e_tupOf (ds := s.ss.map vD) (p_cons (e_var rfl) a_nil)) (a_cons (e_tupOf (ds := s.fs.map forceD) (p_cons (e_var rfl) a_nil)) a_nil))) (.cons (.cons (.cons .nil))) (show 3 ≤ 100000 by decide)⟩
theorem fok_law_told (Tp : Top K mg base) : FnOk P w K mg base CX0 7 Tp.f_law_told Tp.d_law_told ["text"] (spT K Tp.tabs RTdR) := by
  have G_read_run := fok_read_run (P := P) (w := w) (base := base) Tp
  refine Tp.F_law_told.ok sc_law_told (fun vs H Q E h => len_P (fun _ _ ⟨_, e, _⟩ => by rw [e]; rfl) h) (fun cdv A outer s H vs Q E hr h => ?_)
  refine ⟨_, (pss_cons (PX.tryAs (i := 2) rfl rfl sc_law_told.nd rfl rfl ⟨rfl, by decide, .inl Tp.gc_SteadyError⟩ takes0 (fun W pn xe tk _ => (pss_one (ps_set (i := 1) sc_law_told.nd rfl (.inl rfl) (pe_callS G_read_run (hr.mono (by decide)) (by rfl) Tp.g_read_run Tp.F_read_run.kp Tp.b_read_run (fun σ => passAt tk σ) (pa_cons (pv 0) pa_nil))))) (fun a oe cls d pn hz hf => (pss_one (ps_ret (pe_ifExp (pt_val (PX.pe_isS hz hf (pv 2) (by rfl) Tp.n_isinstance (by rfl) Tp.gc_TextError)) pe_str pe_str)))))
      (pss_one (ps_ret (pv 1)))), body_T ?_ h⟩
  refine fun ds d r I hT => ?_
  obtain ⟨l, rfl, ht, hl, rfl⟩ := r
  walk_at "norm"
  unfold tldD
  cases e : rdRun l with
  | none =>
    exact s_stop (s_tryXAs (C := Tp.c_TextError) (ρx := [some (.d (.str (sx l))), none, none]) (Jx := I) (PySem.W.exm_ref Tp.bc_SteadyError Tp.hc_SteadyError Tp.tc_SteadyError Tp.ac_TextError_SteadyError) (fun a_ => p_ret (e_ifT (t_B (e_isP (e_var rfl) rfl rfl Tp.E_TextError kit_same)) (e_is e_str (by rw [st_text])))) fun W G0 hW => s_asgE (e_callSE (R := RRr Tp.c_TextError) (ds := [.d (.str (sx l))]) (d := .d .none) (L := .no) (J := I.and (Asn.frm G0)) (by walk_at "ev") ⟨l, rfl, ht, hl, .inl ⟨e, rfl⟩⟩ fun G H σ gh en j => hW G H σ j.2 gh en j.1) fun _ _ z => z)
  | some v =>
    exact s_seq (ρ1 := [some (.d (.str (sx l))), some (.d (runD v)), none]) (J := I) (s_tryN fun W => p_asg (e_callSX (R := RRr Tp.c_TextError) (ds := [.d (.str (sx l))]) (d := .d (runD v)) (by walk_at "ev") ⟨l, rfl, ht, hl, .inr ⟨v, e, rfl⟩⟩)) (p_ret (e_var rfl))
theorem fok_law (Tp : Top K mg base) : FnOk P w K mg base CX0 8 Tp.f_law Tp.d_law ["script"] (spLawT K Tp.tabs) := by
  have G_law_begin := fok_law_begin (P := P) (w := w) (base := base) Tp
  have G_law_run := fok_law_run (P := P) (w := w) (base := base) Tp
  have G_law_text := fok_law_text (P := P) (w := w) (base := base) Tp
  have G_law_bent := fok_law_bent (P := P) (w := w) (base := base) Tp
  have G_law_told := fok_law_told (P := P) (w := w) (base := base) Tp
  have G_write_run := fok_write_run (P := P) (w := w) (base := base) Tp
  refine Tp.F_law.ok sc_law (fun vs H Q E h => len_LT h) (fun cdv A outer s H vs Q E hr h => ?_)
  refine ⟨_, (pss_cons (ps_set (i := 1) sc_law.nd rfl (.inl rfl) (pe_call G_law_begin (hr.mono (by decide)) (by rfl) Tp.g_law_begin Tp.F_law_begin.kp Tp.b_law_begin .nil pass0 (pa_cons (pv 0) pa_nil)))
      (pss_cons (ps_set (i := 2) sc_law.nd rfl (.inl rfl) (pe_call G_law_run (hr.mono (by decide)) (by rfl) Tp.g_law_run Tp.F_law_run.kp Tp.b_law_run .nil pass0 (pa_cons (pv 1) pa_nil)))
      (pss_cons (ps_set (i := 3) sc_law.nd rfl (.inl rfl) (pe_call G_law_text (hr.mono (by decide)) (by rfl) Tp.g_law_text Tp.F_law_text.kp Tp.b_law_text .nil pass0 (pa_cons (pv 2) pa_nil)))
      (pss_cons (ps_if (PW.pt (pw_or (pt_cmpR (op_neD hr.units) (pe_call G_write_run (hr.mono (by decide)) (by rfl) Tp.g_write_run Tp.F_write_run.kp Tp.b_write_run .nil pass0 (pa_cons (pv 2) pa_nil)) (pv 3) (nomark _)) (pw_or (pt_cmpR (op_neD hr.units) (pe_call G_law_told (hr.mono (by decide)) (by rfl) Tp.g_law_told Tp.F_law_told.kp Tp.b_law_told .nil pass0 (pa_cons (pv 3) pa_nil)) (pv 2) (nomark _)) (pw_or (pt_cmpR (op_neD hr.units) (pe_call G_law_told (hr.mono (by decide)) (by rfl) Tp.g_law_told Tp.F_law_told.kp Tp.b_law_told .nil pass0 (pa_cons pe_str pa_nil)) (pe_tup pa_nil) (nomark _)) (pw_or1 (pt_cmpR (op_neD hr.units) (pe_call G_write_run (hr.mono (by decide)) (by rfl) Tp.g_write_run Tp.F_write_run.kp Tp.b_write_run .nil pass0 (pa_cons (pe_tup pa_nil) pa_nil)) pe_str (nomark _))))))) (pss_one (ps_ret pe_bl)) pss_nil)
      (pss_cons (ps_for PassesOwn.never rfl (pi_range1 (by rfl) Tp.n_range (pa_cons pe_int pa_nil)) (pg_name (i := 4) sc_law.nd rfl (.inl rfl)) (pss_cons (ps_set (i := 5) sc_law.nd rfl (.inl rfl) (pe_call G_law_bent (hr.mono (by decide)) (by rfl) Tp.g_law_bent Tp.F_law_bent.kp Tp.b_law_bent .nil pass0 (pa_cons (pv 1) (pa_cons (pv 3) pa_nil))))
      (pss_cons (ps_set (i := 6) sc_law.nd rfl (.inl rfl) (pe_call G_law_told (hr.mono (by decide)) (by rfl) Tp.g_law_told Tp.F_law_told.kp Tp.b_law_told .nil pass0 (pa_cons (pv 5) pa_nil)))
      (pss_cons (ps_if (PW.pt (pw_or (pt_cmpR (op_eqD hr.units) (pv 6) pe_str (nomark _)) (pw_or1 (PW.pt (pw_and (pt_cmpR (op_neD hr.units) (pv 6) pe_str (nomark _)) (pw_and1 (pt_cmpR (op_neD hr.units) (pe_call G_law_text (hr.mono (by decide)) (by rfl) Tp.g_law_text Tp.F_law_text.kp Tp.b_law_text .nil pass0 (pa_cons (pv 6) pa_nil)) (pv 5) (nomark _)))))))) (pss_one (ps_ret pe_bl)) pss_nil)
      (pss_one (ps_if (PW.pt (pw_and (pt_cmpR (op_neD hr.units) (pv 5) pe_str (nomark _)) (pw_and (pt_cmpR (op_neD hr.units) (pe_slice (r := rSlS) sl_str (pv 5) (po_some (pe_un un_neg pe_int)) po_none) pe_str (nomark _)) (pw_and1 (pt_cmpR (op_neD hr.units) (pv 6) pe_str (nomark _)))))) (pss_one (ps_ret pe_bl)) pss_nil))))))
      (pss_one (ps_ret (pe_and (pe_cmpR (op_eqD hr.units) (pe_call G_law_told (hr.mono (by decide)) (by rfl) Tp.g_law_told Tp.F_law_told.kp Tp.b_law_told .nil pass0 (pa_cons pe_str pa_nil)) pe_str (nomark _)) (pe_one (pe_cmpR (op_eqD hr.units) (pe_call G_law_told (hr.mono (by decide)) (by rfl) Tp.g_law_told Tp.F_law_told.kp Tp.b_law_told .nil pass0 (pa_cons (pe_op op_add_str (pv 3) pe_str) pa_nil)) pe_str (nomark _))))))))))), body_LT ?_ h⟩
  refine fun ns hl => ?_
  walk_at "norm"
  refine s_beginT (ns := ns) (by walk_at "ev") fun p C ok nf => ?_
  have shT : SeqAt.shaped (.str (sx [116, 101, 120, 116])) = true := sh_str (by decide)
  refine s_asgN (P := fun d L => ∃ r C', d = .d (runD r) ∧ RunG r ∧ DOk C' ∧ L = (dJ K p C' (.tab Tp.tabs))) (en_draw (R := RRunN) (ds := []) (C := C) (Z := .tt) (by walk_at "ev") ⟨rfl, ok, rfl, rfl⟩ nf (fun _ _ _ => trivial) (fun z => z) fun d C' po => by
      obtain ⟨oc, r, rfl, g⟩ := po
      exact ⟨r, C', rfl, g, oc, rfl⟩) fun d L po => ?_
  obtain ⟨r, C0, rfl, g, ok0, rfl⟩ := po
  have hsz := g.sz
  have txt := tx_text g
  have fit : ∀ s ∈ r, FitS s := fun s hs => (g.s s hs).fit
  have rd := rdRun_text fun s hs => (g.s s hs).w
  have shR : SeqAt.shaped (runD r) = true := (lay_runD fun s hs => (g.s s hs).kok).shaped (by decide)
  have t0 : Tx [] := fun c hc => nomatch hc
  refine q_asg (d := .d (.str (sx (textOf r)))) (p_call (R := RText) (ds := [.d (runD r)]) (p_cons (e_var rfl) a_nil) ⟨r, rfl, fit, by omega, rfl⟩) ?_
  have etr : tldD (textOf r) = runD r := by unfold tldD; rw [rd]
  have et0 : tldD [] = .tuple [] := by unfold tldD; rw [rdRun_nil]; rfl
  refine q_skip (b := false) (t_orF (t_is (p_test (p_neD (x := .str (sx (textOf r))) (y := .str (sx (textOf r))) (p_call (R := RWrun) (ds := [.d (runD r)]) (p_cons (e_var rfl) a_nil) ⟨r, rfl, fun s hs => ⟨fit s hs, by have := (g.s s hs).lines; omega⟩, by have := g.l; omega, by omega, rfl⟩) (e_var rfl) (sh_str txt) (sh_str txt))) (by rw [eqv_s, decide_eq_true rfl]; rfl)) (t_orF (t_is (p_test (p_neD (x := runD r) (y := runD r) (e_is (p_call (T := Tp.tabs) (R := RTdR) (ds := [.d (.str (sx (textOf r)))]) (p_cons (e_var rfl) a_nil) ⟨(textOf r), rfl, txt, by omega, rfl⟩) (by rw [etr])) (e_var rfl) shR shR)) (by rw [eqv_self' shR]; rfl)) (t_orF (t_is (p_test (p_neD (x := .tuple []) (y := .tuple []) (e_is (p_call (T := Tp.tabs) (R := RTdR) (ds := [.d (.str (sx []))]) (p_cons (e_is e_str (by rw [st_nil])) a_nil) ⟨[], rfl, t0, by decide, rfl⟩) (by rw [et0])) (p_tup a_nil .nil (show 0 ≤ 100000 by decide)) (by decide) (by decide))) (by rfl)) (t_is (p_test (p_neD (x := .str (sx [])) (y := .str (sx [])) (p_call (R := RWrun) (ds := [.d (runD [])]) (p_cons (p_tup a_nil .nil (show 0 ≤ 100000 by decide)) a_nil) ⟨[], rfl, (fun _ h => nomatch h), by decide, by decide, rfl⟩) (e_is e_str (by rw [st_nil])) (sh_str t0) (sh_str t0))) (by rw [eqv_s, decide_eq_true rfl]; rfl))))) rfl ?_
  refine s_loopN (α := DS) (fun _ C => DOk C) (fun _ => [some (.d (.list (ns.map PyData.int))), some (.r p), some (.d (runD r)), some (.d (.str (sx (textOf r)))), none, none, none]) (fun C => (dJ K p C (.tab Tp.tabs))) C0 ok0 (iw_r (n := 5) (p_cons (e_is e_int rfl) a_nil) (by decide)) rfl (fun i C hi hw => ⟨_, g_name, .inl ?_⟩) fun C hw => ?_
  · refine s_asgN (P := fun d L => ∃ m C', d = .d (.str (sx m)) ∧ DOk C' ∧ Tx m ∧ m.length ≤ 550 ∧ L = (dJ K p C' (.tab Tp.tabs))) (en_draw (R := RBentR) (ds := [.d (.str (sx (textOf r)))]) (C := C) (Z := .tt) (by walk_at "ev") ⟨textOf r, rfl, txt, hsz, spl_text g, hw, rfl, rfl⟩ nf (fun _ _ _ => trivial) (fun z => z) fun d C' po => by
      obtain ⟨oc, m, rfl, h1, h2⟩ := po
      exact ⟨m, C', rfl, oc, h1, h2, rfl⟩) fun d L po => ?_
    obtain ⟨m, C', rfl, oc, tm, lm, rfl⟩ := po
    refine q_asg (d := .d (tldD m)) (p_call (T := Tp.tabs) (R := RTdR) (ds := [.d (.str (sx m))]) (p_cons (e_var rfl) a_nil) ⟨m, rfl, tm, by omega, rfl⟩) ?_
    have sho : SeqAt.shaped (.str (sx [111, 116, 104, 101, 114])) = true := sh_str (by decide)
    have ne_o : PyData.eqv (tldD m) (.str (sx [111, 116, 104, 101, 114])) = false := by
      unfold tldD
      cases rdRun m with
      | none =>
        dsimp only
        rw [eqv_s]
        decide
      | some r => exact eqv_run_text _ _
    have fin : S K tNext [some (.d (.list (ns.map PyData.int))), some (.r p), some (.d (runD r)), some (.d (.str (sx (textOf r)))), some (.i (i : Nat)), some (.d (.str (sx m))), some (.d (tldD m))] (dJ K p C' (.tab Tp.tabs)) (.ne fun r_ L => ∃ a', DOk a' ∧ r_ = [some (.d (.list (ns.map PyData.int))), some (.r p), some (.d (runD r)), some (.d (.str (sx (textOf r)))), none, none, none] ∧ L = (dJ K p a' (.tab Tp.tabs))) := s_ne (ρ1 := [some (.d (.list (ns.map PyData.int))), some (.r p), some (.d (runD r)), some (.d (.str (sx (textOf r)))), none, none, none]) (J := (dJ K p C' (.tab Tp.tabs))) (s_lessN (ρ' := [some (.d (.list (ns.map PyData.int))), some (.r p), some (.d (runD r)), some (.d (.str (sx (textOf r)))), some (.i (i : Nat)), some (.d (.str (sx m))), some (.d (tldD m))]) ⟨.inr rfl, .inr rfl, .inr rfl, .inr rfl, .inl rfl, .inl rfl, .inl rfl, trivial⟩ s_next) ⟨C', oc, rfl, rfl⟩
    refine q_skip (b := false) (t_orF (t_is (p_test (p_eqD (x := tldD m) (y := .str (sx [111, 116, 104, 101, 114])) (e_var (i := 6) rfl) (e_is e_str (by rw [st_other])) (sh_tld m) sho)) ne_o) (t_is (t_and (b := !PyData.eqv (tldD m) (.str (sx [116, 101, 120, 116]))) (c := false) (p_test (p_neD (x := tldD m) (y := .str (sx [116, 101, 120, 116])) (e_var (i := 6) rfl) (e_is e_str (by rw [st_text])) (sh_tld m) shT)) fun hb => by
        have : ∃ x, rdRun m = some x := by
          cases e : rdRun m with
          | none =>
            unfold tldD at hb
            rw [e] at hb
            dsimp only at hb
            rw [eqv_s, decide_eq_true rfl] at hb
            cases hb
          | some x => exact ⟨x, rfl⟩
        obtain ⟨x, ex⟩ := this
        obtain ⟨b1, b2⟩ := rdRun_back ex
        have etx : tldD m = runD x := by unfold tldD; rw [ex]
        exact t_is (p_test (p_neD (x := .str (sx m)) (y := .str (sx m)) (p_call (R := RText) (ds := [.d (runD x)]) (p_cons (e_is (e_var (i := 6) rfl) (by rw [etx])) a_nil) ⟨x, rfl, fit_of b2 (by rw [b1]; omega), by rw [b1]; omega, by rw [b1]⟩) (e_var (i := 5) rfl) (sh_str tm) (sh_str tm))) (by rw [eqv_s, decide_eq_true rfl]; rfl)) (by rw [Bool.and_false]))) rfl ?_
    have tlf : Tx [10] := by decide
    by_cases c0 : m = []
    · exact q_ifF (t_andF (t_is (p_test (p_neD (x := .str (sx m)) (y := .str (sx [])) (e_var rfl) (e_is e_str (by rw [st_nil])) (sh_str tm) (sh_str t0))) (by rw [eqv_s, decide_eq_true c0]; rfl))) rfl fin
    have tlast : Tx [m.getLast c0] := tx_one (tm _ (List.getLast_mem c0))
    refine q_ifF (b := false) (t_andT (t_is (p_test (p_neD (x := .str (sx m)) (y := .str (sx [])) (e_var rfl) (e_is e_str (by rw [st_nil])) (sh_str tm) (sh_str t0))) (by rw [eqv_s, decide_eq_false c0]; rfl)) (t_is (t_and (b := !decide ([m.getLast c0] = [10])) (c := !PyData.eqv (tldD m) (.str (sx [116, 101, 120, 116]))) (t_is (p_test (p_neD (x := .str (sx [m.getLast c0])) (y := .str (sx [10])) (e_is (e_cutFrom (z := sx m) (i := -1) (e_var rfl) (e_is (p_neg e_int) rfl) (by rw [sx_len]; omega)) (by rw [cutS_last c0])) (e_is e_str (by rw [st_lf])) (sh_str tlast) (sh_str tlf))) (by rw [eqv_s])) fun _ => p_test (p_neD (x := tldD m) (y := .str (sx [116, 101, 120, 116])) (e_var rfl) (e_is e_str (by rw [st_text])) (sh_tld m) shT)) ?_)) rfl fin
    by_cases cl : m.getLast c0 = 10
    · rw [cl, decide_eq_true rfl]
      rfl
    · have : rdRun m = none := rdRun_no c0 fun z => cl (by rw [List.getLast?_eq_some_getLast c0] at z; exact Option.some.inj z)
      have e : tldD m = .str (sx [116, 101, 120, 116]) := by unfold tldD; rw [this]
      rw [e, eqv_s, decide_eq_true rfl]
      simp
  have e1 : tldD [115, 112, 101, 101, 100, 32, 48, 32, 48, 10] = .str (sx [116, 101, 120, 116]) := by unfold tldD; rw [rdRun_speed]
  have e2 : tldD (textOf r ++ [10]) = .str (sx [116, 101, 120, 116]) := by unfold tldD; rw [rdRun_lf fun s hs => (g.s s hs).w]
  have tlf : Tx [10] := by decide
  exact s_rtT (p_ret (e_is (e_andV (b := true) (c := true) (e_is (p_eqD (x := .str (sx [116, 101, 120, 116])) (y := .str (sx [116, 101, 120, 116])) (e_is (p_call (T := Tp.tabs) (R := RTdR) (ds := [.d (.str (sx [115, 112, 101, 101, 100, 32, 48, 32, 48, 10]))]) (p_cons (e_is e_str (by rw [st_sp00])) a_nil) ⟨[115, 112, 101, 101, 100, 32, 48, 32, 48, 10], rfl, (by decide), by decide, rfl⟩) (by rw [e1])) (e_is e_str (by rw [st_text])) shT shT) (by rw [eqv_s, decide_eq_true rfl])) fun _ => e_is (p_eqD (x := .str (sx [116, 101, 120, 116])) (y := .str (sx [116, 101, 120, 116])) (e_is (p_call (T := Tp.tabs) (R := RTdR) (ds := [.d (.str (sx (textOf r ++ [10])))]) (p_cons (e_is (e_addS (x := sx (textOf r)) (y := sx [10]) (e_var rfl) (e_is e_str (by rw [st_lf])) (by rw [sx_len, sx_len, sizeLine_eq]; rw [List.length_singleton]; omega)) (by rw [sx_app])) a_nil) ⟨(textOf r ++ [10]), rfl, (tx_app txt tlf), by rw [List.length_append, List.length_singleton]; omega, rfl⟩) (by rw [e2])) (e_is e_str (by rw [st_text])) shT shT) (by rw [eqv_s, decide_eq_true rfl])) rfl))
end
theorem all_mk {w : World} {K : PySem.W.Frag} {h : Heap} {mg : Str → Option Value} {fa : Addr} {qq : Program} (X : K.In h) (G : h.Ns mainGlobals mg) (hfa : mg "law" = some (.ref fa)) (htab : ∀ (y : Str) (c P : Addr), ((PyProof.Rows.recsOf qq).any fun e => e.name == y) = true → PySem.W.tabIn K y = some (c, P) → PySem.W.CodeHd h c P ∧ h.get? P = some { cls := .none, data := .fields #[] })
    {f0 f1 f2 f3 f4 f5 f6 f7 f8 f9 f10 f11 f12 f13 f14 f15 f16 f17 f18 f19 f20 f21 f22 f23 f24 f25 f26 f27 f28 : Addr} {od0 an0 od1 an1 od2 an2 od3 an3 od4 an4 od5 an5 od6 an6 od7 an7 od8 an8 od9 an9 od10 an10 od11 an11 od12 an12 od13 an13 od14 an14 od15 an15 od16 an16 od17 an17 od18 an18 od19 an19 od20 an20 od21 an21 od22 an22 od23 an23 od24 an24 od25 an25 od26 an26 od27 an27 od28 an28 : Option Addr} {sl0 sl1 sl2 sl3 sl4 sl5 sl6 sl7 sl8 sl9 sl10 sl11 sl12 sl13 sl14 sl15 sl16 sl17 sl18 sl19 sl20 sl21 sl22 sl23 sl24 sl25 sl26 sl27 sl28 : Array (Option Value)} {oc0 kV0 dc0 pm0 cd0 ct0 oc1 kV1 dc1 pm1 cd1 ct1 oc2 kV2 dc2 pm2 cd2 ct2 oc3 kV3 dc3 pm3 cd3 ct3 oc4 kV4 dc4 pm4 cd4 ct4 oc5 kV5 dc5 pm5 cd5 ct5 oc6 kV6 dc6 pm6 cd6 ct6 oc7 kV7 dc7 pm7 cd7 ct7 oc8 kV8 dc8 pm8 cd8 ct8 oc9 kV9 dc9 pm9 cd9 ct9 oc10 kV10 dc10 pm10 cd10 ct10 oc11 kV11 dc11 pm11 cd11 ct11 oc12 kV12 dc12 pm12 cd12 ct12 oc13 kV13 dc13 pm13 cd13 ct13 oc14 kV14 dc14 pm14 cd14 ct14 oc15 kV15 dc15 pm15 cd15 ct15 oc16 kV16 dc16 pm16 cd16 ct16 oc17 kV17 dc17 pm17 cd17 ct17 oc18 kV18 dc18 pm18 cd18 ct18 oc19 kV19 dc19 pm19 cd19 ct19 oc20 kV20 dc20 pm20 cd20 ct20 oc21 kV21 dc21 pm21 cd21 ct21 oc22 kV22 dc22 pm22 cd22 ct22 oc23 kV23 dc23 pm23 cd23 ct23 oc24 kV24 dc24 pm24 cd24 ct24 oc25 kV25 dc25 pm25 cd25 ct25 oc26 kV26 dc26 pm26 cd26 ct26 oc27 kV27 dc27 pm27 cd27 ct27 oc28 kV28 dc28 pm28 cd28 ct28 : Value}
    (a0 : PySem.W.nsIn K mainGlobals "fraction" = some (some (.ref f0))) (l0 : K.lookup f0 = some ⟨oc0, od0, .func (PySem.W.fnOf "fraction" "fraction" (defArgs s_fraction) (defBody s_fraction) (defScope s_fraction) .none kV0 dc0 pm0 an0 cd0 ct0), sl0⟩) (c0 : PySem.W.codeIn K cd0 "fraction" = true) (k0 : PySem.W.keepIn K (.ref f0) = true)
    (a1 : PySem.W.nsIn K mainGlobals "decimal" = some (some (.ref f1))) (l1 : K.lookup f1 = some ⟨oc1, od1, .func (PySem.W.fnOf "decimal" "decimal" (defArgs s_decimal) (defBody s_decimal) (defScope s_decimal) .none kV1 dc1 pm1 an1 cd1 ct1), sl1⟩) (c1 : PySem.W.codeIn K cd1 "decimal" = true) (k1 : PySem.W.keepIn K (.ref f1) = true)
    (a2 : PySem.W.nsIn K mainGlobals "is_decimal" = some (some (.ref f2))) (l2 : K.lookup f2 = some ⟨oc2, od2, .func (PySem.W.fnOf "is_decimal" "is_decimal" (defArgs s_is_decimal) (defBody s_is_decimal) (defScope s_is_decimal) .none kV2 dc2 pm2 an2 cd2 ct2), sl2⟩) (c2 : PySem.W.codeIn K cd2 "is_decimal" = true) (k2 : PySem.W.keepIn K (.ref f2) = true)
    (a3 : PySem.W.nsIn K mainGlobals "write_fraction" = some (some (.ref f3))) (l3 : K.lookup f3 = some ⟨oc3, od3, .func (PySem.W.fnOf "write_fraction" "write_fraction" (defArgs s_write_fraction) (defBody s_write_fraction) (defScope s_write_fraction) .none kV3 dc3 pm3 an3 cd3 ct3), sl3⟩) (c3 : PySem.W.codeIn K cd3 "write_fraction" = true) (k3 : PySem.W.keepIn K (.ref f3) = true)
    (a4 : PySem.W.nsIn K mainGlobals "read_fraction" = some (some (.ref f4))) (l4 : K.lookup f4 = some ⟨oc4, od4, .func (PySem.W.fnOf "read_fraction" "read_fraction" (defArgs s_read_fraction) (defBody s_read_fraction) (defScope s_read_fraction) .none kV4 dc4 pm4 an4 cd4 ct4), sl4⟩) (c4 : PySem.W.codeIn K cd4 "read_fraction" = true) (k4 : PySem.W.keepIn K (.ref f4) = true)
    (a5 : PySem.W.nsIn K mainGlobals "write_vector" = some (some (.ref f5))) (l5 : K.lookup f5 = some ⟨oc5, od5, .func (PySem.W.fnOf "write_vector" "write_vector" (defArgs s_write_vector) (defBody s_write_vector) (defScope s_write_vector) .none kV5 dc5 pm5 an5 cd5 ct5), sl5⟩) (c5 : PySem.W.codeIn K cd5 "write_vector" = true) (k5 : PySem.W.keepIn K (.ref f5) = true)
    (a6 : PySem.W.nsIn K mainGlobals "lines_of" = some (some (.ref f6))) (l6 : K.lookup f6 = some ⟨oc6, od6, .func (PySem.W.fnOf "lines_of" "lines_of" (defArgs s_lines_of) (defBody s_lines_of) (defScope s_lines_of) .none kV6 dc6 pm6 an6 cd6 ct6), sl6⟩) (c6 : PySem.W.codeIn K cd6 "lines_of" = true) (k6 : PySem.W.keepIn K (.ref f6) = true)
    (a7 : PySem.W.nsIn K mainGlobals "words_behind" = some (some (.ref f7))) (l7 : K.lookup f7 = some ⟨oc7, od7, .func (PySem.W.fnOf "words_behind" "words_behind" (defArgs s_words_behind) (defBody s_words_behind) (defScope s_words_behind) .none kV7 dc7 pm7 an7 cd7 ct7), sl7⟩) (c7 : PySem.W.codeIn K cd7 "words_behind" = true) (k7 : PySem.W.keepIn K (.ref f7) = true)
    (a8 : PySem.W.nsIn K mainGlobals "read_integer" = some (some (.ref f8))) (l8 : K.lookup f8 = some ⟨oc8, od8, .func (PySem.W.fnOf "read_integer" "read_integer" (defArgs s_read_integer) (defBody s_read_integer) (defScope s_read_integer) .none kV8 dc8 pm8 an8 cd8 ct8), sl8⟩) (c8 : PySem.W.codeIn K cd8 "read_integer" = true) (k8 : PySem.W.keepIn K (.ref f8) = true)
    (a9 : PySem.W.nsIn K mainGlobals "read_vector" = some (some (.ref f9))) (l9 : K.lookup f9 = some ⟨oc9, od9, .func (PySem.W.fnOf "read_vector" "read_vector" (defArgs s_read_vector) (defBody s_read_vector) (defScope s_read_vector) .none kV9 dc9 pm9 an9 cd9 ct9), sl9⟩) (c9 : PySem.W.codeIn K cd9 "read_vector" = true) (k9 : PySem.W.keepIn K (.ref f9) = true)
    (a10 : PySem.W.nsIn K mainGlobals "write_run" = some (some (.ref f10))) (l10 : K.lookup f10 = some ⟨oc10, od10, .func (PySem.W.fnOf "write_run" "write_run" (defArgs s_write_run) (defBody s_write_run) (defScope s_write_run) .none kV10 dc10 pm10 an10 cd10 ct10), sl10⟩) (c10 : PySem.W.codeIn K cd10 "write_run" = true) (k10 : PySem.W.keepIn K (.ref f10) = true)
    (a11 : PySem.W.nsIn K mainGlobals "lines_of_step" = some (some (.ref f11))) (l11 : K.lookup f11 = some ⟨oc11, od11, .func (PySem.W.fnOf "lines_of_step" "lines_of_step" (defArgs s_lines_of_step) (defBody s_lines_of_step) (defScope s_lines_of_step) .none kV11 dc11 pm11 an11 cd11 ct11), sl11⟩) (c11 : PySem.W.codeIn K cd11 "lines_of_step" = true) (k11 : PySem.W.keepIn K (.ref f11) = true)
    (a12 : PySem.W.nsIn K mainGlobals "write_name" = some (some (.ref f12))) (l12 : K.lookup f12 = some ⟨oc12, od12, .func (PySem.W.fnOf "write_name" "write_name" (defArgs s_write_name) (defBody s_write_name) (defScope s_write_name) .none kV12 dc12 pm12 an12 cd12 ct12), sl12⟩) (c12 : PySem.W.codeIn K cd12 "write_name" = true) (k12 : PySem.W.keepIn K (.ref f12) = true)
    (a13 : PySem.W.nsIn K mainGlobals "read_run" = some (some (.ref f13))) (l13 : K.lookup f13 = some ⟨oc13, od13, .func (PySem.W.fnOf "read_run" "read_run" (defArgs s_read_run) (defBody s_read_run) (defScope s_read_run) .none kV13 dc13 pm13 an13 cd13 ct13), sl13⟩) (c13 : PySem.W.codeIn K cd13 "read_run" = true) (k13 : PySem.W.keepIn K (.ref f13) = true)
    (a14 : PySem.W.nsIn K mainGlobals "read_part" = some (some (.ref f14))) (l14 : K.lookup f14 = some ⟨oc14, od14, .func (PySem.W.fnOf "read_part" "read_part" (defArgs s_read_part) (defBody s_read_part) (defScope s_read_part) .none kV14 dc14 pm14 an14 cd14 ct14), sl14⟩) (c14 : PySem.W.codeIn K cd14 "read_part" = true) (k14 : PySem.W.keepIn K (.ref f14) = true)
    (a15 : PySem.W.nsIn K mainGlobals "read_force" = some (some (.ref f15))) (l15 : K.lookup f15 = some ⟨oc15, od15, .func (PySem.W.fnOf "read_force" "read_force" (defArgs s_read_force) (defBody s_read_force) (defScope s_read_force) .none kV15 dc15 pm15 an15 cd15 ct15), sl15⟩) (c15 : PySem.W.codeIn K cd15 "read_force" = true) (k15 : PySem.W.keepIn K (.ref f15) = true)
    (a16 : PySem.W.nsIn K mainGlobals "_law_begin" = some (some (.ref f16))) (l16 : K.lookup f16 = some ⟨oc16, od16, .func (PySem.W.fnOf "_law_begin" "_law_begin" (defArgs s_law_begin) (defBody s_law_begin) (defScope s_law_begin) .none kV16 dc16 pm16 an16 cd16 ct16), sl16⟩) (c16 : PySem.W.codeIn K cd16 "_law_begin" = true) (k16 : PySem.W.keepIn K (.ref f16) = true)
    (a17 : PySem.W.nsIn K mainGlobals "_law_take" = some (some (.ref f17))) (l17 : K.lookup f17 = some ⟨oc17, od17, .func (PySem.W.fnOf "_law_take" "_law_take" (defArgs s_law_take) (defBody s_law_take) (defScope s_law_take) .none kV17 dc17 pm17 an17 cd17 ct17), sl17⟩) (c17 : PySem.W.codeIn K cd17 "_law_take" = true) (k17 : PySem.W.keepIn K (.ref f17) = true)
    (a18 : PySem.W.nsIn K mainGlobals "_law_signed" = some (some (.ref f18))) (l18 : K.lookup f18 = some ⟨oc18, od18, .func (PySem.W.fnOf "_law_signed" "_law_signed" (defArgs s_law_signed) (defBody s_law_signed) (defScope s_law_signed) .none kV18 dc18 pm18 an18 cd18 ct18), sl18⟩) (c18 : PySem.W.codeIn K cd18 "_law_signed" = true) (k18 : PySem.W.keepIn K (.ref f18) = true)
    (a19 : PySem.W.nsIn K mainGlobals "_law_gcd" = some (some (.ref f19))) (l19 : K.lookup f19 = some ⟨oc19, od19, .func (PySem.W.fnOf "_law_gcd" "_law_gcd" (defArgs s_law_gcd) (defBody s_law_gcd) (defScope s_law_gcd) .none kV19 dc19 pm19 an19 cd19 ct19), sl19⟩) (c19 : PySem.W.codeIn K cd19 "_law_gcd" = true) (k19 : PySem.W.keepIn K (.ref f19) = true)
    (a20 : PySem.W.nsIn K mainGlobals "_law_f" = some (some (.ref f20))) (l20 : K.lookup f20 = some ⟨oc20, od20, .func (PySem.W.fnOf "_law_f" "_law_f" (defArgs s_law_f) (defBody s_law_f) (defScope s_law_f) .none kV20 dc20 pm20 an20 cd20 ct20), sl20⟩) (c20 : PySem.W.codeIn K cd20 "_law_f" = true) (k20 : PySem.W.keepIn K (.ref f20) = true)
    (a21 : PySem.W.nsIn K mainGlobals "_law_part" = some (some (.ref f21))) (l21 : K.lookup f21 = some ⟨oc21, od21, .func (PySem.W.fnOf "_law_part" "_law_part" (defArgs s_law_part) (defBody s_law_part) (defScope s_law_part) .none kV21 dc21 pm21 an21 cd21 ct21), sl21⟩) (c21 : PySem.W.codeIn K cd21 "_law_part" = true) (k21 : PySem.W.keepIn K (.ref f21) = true)
    (a22 : PySem.W.nsIn K mainGlobals "_law_vector" = some (some (.ref f22))) (l22 : K.lookup f22 = some ⟨oc22, od22, .func (PySem.W.fnOf "_law_vector" "_law_vector" (defArgs s_law_vector) (defBody s_law_vector) (defScope s_law_vector) .none kV22 dc22 pm22 an22 cd22 ct22), sl22⟩) (c22 : PySem.W.codeIn K cd22 "_law_vector" = true) (k22 : PySem.W.keepIn K (.ref f22) = true)
    (a23 : PySem.W.nsIn K mainGlobals "_law_word" = some (some (.ref f23))) (l23 : K.lookup f23 = some ⟨oc23, od23, .func (PySem.W.fnOf "_law_word" "_law_word" (defArgs s_law_word) (defBody s_law_word) (defScope s_law_word) .none kV23 dc23 pm23 an23 cd23 ct23), sl23⟩) (c23 : PySem.W.codeIn K cd23 "_law_word" = true) (k23 : PySem.W.keepIn K (.ref f23) = true)
    (a24 : PySem.W.nsIn K mainGlobals "_law_text" = some (some (.ref f24))) (l24 : K.lookup f24 = some ⟨oc24, od24, .func (PySem.W.fnOf "_law_text" "_law_text" (defArgs s_law_text) (defBody s_law_text) (defScope s_law_text) .none kV24 dc24 pm24 an24 cd24 ct24), sl24⟩) (c24 : PySem.W.codeIn K cd24 "_law_text" = true) (k24 : PySem.W.keepIn K (.ref f24) = true)
    (a25 : PySem.W.nsIn K mainGlobals "_law_told" = some (some (.ref f25))) (l25 : K.lookup f25 = some ⟨oc25, od25, .func (PySem.W.fnOf "_law_told" "_law_told" (defArgs s_law_told) (defBody s_law_told) (defScope s_law_told) .none kV25 dc25 pm25 an25 cd25 ct25), sl25⟩) (c25 : PySem.W.codeIn K cd25 "_law_told" = true) (k25 : PySem.W.keepIn K (.ref f25) = true)
    (a26 : PySem.W.nsIn K mainGlobals "_law_run" = some (some (.ref f26))) (l26 : K.lookup f26 = some ⟨oc26, od26, .func (PySem.W.fnOf "_law_run" "_law_run" (defArgs s_law_run) (defBody s_law_run) (defScope s_law_run) .none kV26 dc26 pm26 an26 cd26 ct26), sl26⟩) (c26 : PySem.W.codeIn K cd26 "_law_run" = true) (k26 : PySem.W.keepIn K (.ref f26) = true)
    (a27 : PySem.W.nsIn K mainGlobals "_law_bent" = some (some (.ref f27))) (l27 : K.lookup f27 = some ⟨oc27, od27, .func (PySem.W.fnOf "_law_bent" "_law_bent" (defArgs s_law_bent) (defBody s_law_bent) (defScope s_law_bent) .none kV27 dc27 pm27 an27 cd27 ct27), sl27⟩) (c27 : PySem.W.codeIn K cd27 "_law_bent" = true) (k27 : PySem.W.keepIn K (.ref f27) = true)
    (a28 : PySem.W.nsIn K mainGlobals "law" = some (some (.ref f28))) (l28 : K.lookup f28 = some ⟨oc28, od28, .func (PySem.W.fnOf "law" "law" (defArgs s_law) (defBody s_law) (defScope s_law) .none kV28 dc28 pm28 an28 cd28 ct28), sl28⟩) (c28 : PySem.W.codeIn K cd28 "law" = true) (k28 : PySem.W.keepIn K (.ref f28) = true)
    {tca_is_decimal tpa_is_decimal : Addr} {uc_is_decimal : Value} {ud_is_decimal : Option Addr} {uv_is_decimal : Array Value} {us_is_decimal : Array (Option Value)} (ce_is_decimal : cd2 = .ref tca_is_decimal) (u_is_decimal : K.lookup tca_is_decimal = some ⟨uc_is_decimal, ud_is_decimal, .fields uv_is_decimal, us_is_decimal⟩) (uw_is_decimal : (uv_is_decimal[11]? : Option Value) = some (.ref tpa_is_decimal)) (tn_is_decimal : K.lookup tpa_is_decimal = none) (tr_is_decimal : ((PyProof.Rows.recsOf qq).any fun e => e.name == "is_decimal") = true)
    {kt_TEXT_LIMIT : Tok} (ka_TEXT_LIMIT : PySem.W.nsIn K mainGlobals "TEXT_LIMIT" = some (some (.int 1000 kt_TEXT_LIMIT)))
    {kt_FIGURE_LIMIT : Tok} (ka_FIGURE_LIMIT : PySem.W.nsIn K mainGlobals "FIGURE_LIMIT" = some (some (.int 9 kt_FIGURE_LIMIT)))
    {kk_PART_WORDS : Addr} {ksl_PART_WORDS : Array (Option Value)} {kn_PART_WORDS : Nat} {kt_PART_WORDS_0 kt_PART_WORDS_1 kt_PART_WORDS_2 : Tok}
    (ka_PART_WORDS : PySem.W.nsIn K mainGlobals "PART_WORDS" = some (some (.ref kk_PART_WORDS))) (kl_PART_WORDS : K.lookup kk_PART_WORDS = some ⟨.type "tuple", none, .seq #[.str "push" kt_PART_WORDS_0, .str "speed" kt_PART_WORDS_1, .str "force" kt_PART_WORDS_2] kn_PART_WORDS, ksl_PART_WORDS⟩)
    {kk_FORCE_KINDS : Addr} {kd_FORCE_KINDS : Option Addr} {ksl_FORCE_KINDS : Array (Option Value)} {kn_FORCE_KINDS : Nat} {kt_FORCE_KINDS_0 kt_FORCE_KINDS_1 : Tok}
    (ka_FORCE_KINDS : PySem.W.nsIn K mainGlobals "FORCE_KINDS" = some (some (.ref kk_FORCE_KINDS))) (kl_FORCE_KINDS : K.lookup kk_FORCE_KINDS = some ⟨.type "tuple", kd_FORCE_KINDS, .seq #[.str "apart" kt_FORCE_KINDS_0, .str "joint" kt_FORCE_KINDS_1] kn_FORCE_KINDS, ksl_FORCE_KINDS⟩)
    {xx_SteadyError xx_ZeroDenominator xx_TextError : Addr}
    (ea_SteadyError : PySem.W.nsIn K mainGlobals "SteadyError" = some (some (.ref xx_SteadyError))) (ex_SteadyError : PySem.W.excIn K xx_SteadyError [.type "ValueError", .type "Exception", .type "BaseException", .type "object"] "ValueError.__new__" = true) (ek_SteadyError : PySem.W.keepIn K (.ref xx_SteadyError) = true) (eb_SteadyError : PySem.W.subIn K (.ref xx_SteadyError) (.type "BaseException") = some true) (et_SteadyError : PySem.W.typeIn K (.ref xx_SteadyError) = some (.type "type")) (eh_SteadyError : PySem.W.hasDictIn K xx_SteadyError = true)
    (ea_ZeroDenominator : PySem.W.nsIn K mainGlobals "ZeroDenominator" = some (some (.ref xx_ZeroDenominator))) (ex_ZeroDenominator : PySem.W.excIn K xx_ZeroDenominator [.type "ValueError", .type "Exception", .type "BaseException", .type "object"] "ValueError.__new__" = true) (ek_ZeroDenominator : PySem.W.keepIn K (.ref xx_ZeroDenominator) = true) (eb_ZeroDenominator : PySem.W.subIn K (.ref xx_ZeroDenominator) (.type "BaseException") = some true) (et_ZeroDenominator : PySem.W.typeIn K (.ref xx_ZeroDenominator) = some (.type "type")) (eh_ZeroDenominator : PySem.W.hasDictIn K xx_ZeroDenominator = true)
    (ea_TextError : PySem.W.nsIn K mainGlobals "TextError" = some (some (.ref xx_TextError))) (ex_TextError : PySem.W.excIn K xx_TextError [.type "ValueError", .type "Exception", .type "BaseException", .type "object"] "ValueError.__new__" = true) (ek_TextError : PySem.W.keepIn K (.ref xx_TextError) = true) (eb_TextError : PySem.W.subIn K (.ref xx_TextError) (.type "BaseException") = some true) (et_TextError : PySem.W.typeIn K (.ref xx_TextError) = some (.type "type")) (eh_TextError : PySem.W.hasDictIn K xx_TextError = true)
    (es_SteadyError_SteadyError : PySem.W.subIn K (.ref xx_SteadyError) (.ref xx_SteadyError) = some true)
    (es_ZeroDenominator_ZeroDenominator : PySem.W.subIn K (.ref xx_ZeroDenominator) (.ref xx_ZeroDenominator) = some true)
    (es_ZeroDenominator_SteadyError : PySem.W.subIn K (.ref xx_ZeroDenominator) (.ref xx_SteadyError) = some true)
    (es_TextError_TextError : PySem.W.subIn K (.ref xx_TextError) (.ref xx_TextError) = some true)
    (es_TextError_SteadyError : PySem.W.subIn K (.ref xx_TextError) (.ref xx_SteadyError) = some true)
    (eo_ZeroDenominator_TextError : PySem.W.subIn K (.ref xx_ZeroDenominator) (.ref xx_TextError) = some false)
    (ei1_ZeroDenominator : PySem.W.findIn K (.ref xx_ZeroDenominator) "__getattribute__" = some (some (.builtin "BaseException.__getattribute__"))) (ei2_ZeroDenominator : PySem.W.findIn K (.ref xx_ZeroDenominator) "__getattr__" = some none) (ei3_ZeroDenominator : PySem.W.findIn K (.ref xx_ZeroDenominator) "__class__" = some (some (.builtin "object.__class__"))) (ei4_ZeroDenominator : PySem.W.specialIn K (.builtin "object.__class__") "__get__" = some (some (.builtin "getset_descriptor.__get__"))) (ei5_ZeroDenominator : PySem.W.takesIn K (.builtin "object.__class__") = some true) (ei6_ZeroDenominator : PySem.W.mroIn K xx_ZeroDenominator (.type "object") = some true)
    (ei1_TextError : PySem.W.findIn K (.ref xx_TextError) "__getattribute__" = some (some (.builtin "BaseException.__getattribute__"))) (ei2_TextError : PySem.W.findIn K (.ref xx_TextError) "__getattr__" = some none) (ei3_TextError : PySem.W.findIn K (.ref xx_TextError) "__class__" = some (some (.builtin "object.__class__"))) (ei4_TextError : PySem.W.specialIn K (.builtin "object.__class__") "__get__" = some (some (.builtin "getset_descriptor.__get__"))) (ei5_TextError : PySem.W.takesIn K (.builtin "object.__class__") = some true) (ei6_TextError : PySem.W.mroIn K xx_TextError (.type "object") = some true)
    (z_abs : PySem.W.nsIn K mainGlobals "abs" = some none)
    (z_all : PySem.W.nsIn K mainGlobals "all" = some none)
    (z_divmod : PySem.W.nsIn K mainGlobals "divmod" = some none)
    (z_int : PySem.W.nsIn K mainGlobals "int" = some none)
    (z_isinstance : PySem.W.nsIn K mainGlobals "isinstance" = some none)
    (z_len : PySem.W.nsIn K mainGlobals "len" = some none)
    (z_list : PySem.W.nsIn K mainGlobals "list" = some none)
    (z_range : PySem.W.nsIn K mainGlobals "range" = some none)
    (z_reversed : PySem.W.nsIn K mainGlobals "reversed" = some none)
    (z_str : PySem.W.nsIn K mainGlobals "str" = some none)
    (z_tuple : PySem.W.nsIn K mainGlobals "tuple" = some none)
    (z_digits : PySem.W.nsIn K cStatics "sys.int_max_str_digits" = some none)
    (z_gcd : PySem.W.nsIn K mainGlobals "gcd" = some (some (.builtin "math.gcd"))) :
    LamX.LawAtS PySem.Challenge.rw_steadybodies_k46_texts_of_runs w K CX0 8 63 "script" mg fa h := by
  have tt_is_decimal := PL.tab_in a2 l2 ce_is_decimal u_is_decimal uw_is_decimal
  have e := hfa.symm.trans (PySem.W.mg_of X G a28)
  have e : fa = f28 := by cases e; rfl
  have F0 := fun_mk (st := s_fraction) l0 c0 k0
  have b0 := F0.binds (ps := ["numerator", "denominator"]) fun _ _ _ _ _ _ us hl => match us, hl with | [_, _], _ => rfl
  have F1 := fun_mk (st := s_decimal) l1 c1 k1
  have b1 := F1.binds (ps := ["number"]) fun _ _ _ _ _ _ us hl => match us, hl with | [_], _ => rfl
  have F2 := PL.funC_mk (st := s_is_decimal) l2 (PL.code_eq a2 l2 tt_is_decimal) c2 k2
  have b2 := F2.of.binds (ps := ["text"]) fun _ _ _ _ _ _ us hl => match us, hl with | [_], _ => rfl
  have F3 := fun_mk (st := s_write_fraction) l3 c3 k3
  have b3 := F3.binds (ps := ["a"]) fun _ _ _ _ _ _ us hl => match us, hl with | [_], _ => rfl
  have F4 := fun_mk (st := s_read_fraction) l4 c4 k4
  have b4 := F4.binds (ps := ["text"]) fun _ _ _ _ _ _ us hl => match us, hl with | [_], _ => rfl
  have F5 := fun_mk (st := s_write_vector) l5 c5 k5
  have b5 := F5.binds (ps := ["vector"]) fun _ _ _ _ _ _ us hl => match us, hl with | [_], _ => rfl
  have F6 := fun_mk (st := s_lines_of) l6 c6 k6
  have b6 := F6.binds (ps := ["text"]) fun _ _ _ _ _ _ us hl => match us, hl with | [_], _ => rfl
  have F7 := fun_mk (st := s_words_behind) l7 c7 k7
  have b7 := F7.binds (ps := ["first", "line", "count"]) fun _ _ _ _ _ _ us hl => match us, hl with | [_, _, _], _ => rfl
  have F8 := fun_mk (st := s_read_integer) l8 c8 k8
  have b8 := F8.binds (ps := ["word"]) fun _ _ _ _ _ _ us hl => match us, hl with | [_], _ => rfl
  have F9 := fun_mk (st := s_read_vector) l9 c9 k9
  have b9 := F9.binds (ps := ["words"]) fun _ _ _ _ _ _ us hl => match us, hl with | [_], _ => rfl
  have F10 := fun_mk (st := s_write_run) l10 c10 k10
  have b10 := F10.binds (ps := ["run"]) fun _ _ _ _ _ _ us hl => match us, hl with | [_], _ => rfl
  have F11 := fun_mk (st := s_lines_of_step) l11 c11 k11
  have b11 := F11.binds (ps := ["step"]) fun _ _ _ _ _ _ us hl => match us, hl with | [_], _ => rfl
  have F12 := fun_mk (st := s_write_name) l12 c12 k12
  have b12 := F12.binds (ps := ["name"]) fun _ _ _ _ _ _ us hl => match us, hl with | [_], _ => rfl
  have F13 := fun_mk (st := s_read_run) l13 c13 k13
  have b13 := F13.binds (ps := ["text"]) fun _ _ _ _ _ _ us hl => match us, hl with | [_], _ => rfl
  have F14 := fun_mk (st := s_read_part) l14 c14 k14
  have b14 := F14.binds (ps := ["word", "line"]) fun _ _ _ _ _ _ us hl => match us, hl with | [_, _], _ => rfl
  have F15 := fun_mk (st := s_read_force) l15 c15 k15
  have b15 := F15.binds (ps := ["words"]) fun _ _ _ _ _ _ us hl => match us, hl with | [_], _ => rfl
  have F16 := fun_mk (st := s_law_begin) l16 c16 k16
  have b16 := F16.binds (ps := ["script"]) fun _ _ _ _ _ _ us hl => match us, hl with | [_], _ => rfl
  have F17 := fun_mk (st := s_law_take) l17 c17 k17
  have b17 := F17.binds (ps := ["d", "many"]) fun _ _ _ _ _ _ us hl => match us, hl with | [_, _], _ => rfl
  have F18 := fun_mk (st := s_law_signed) l18 c18 k18
  have b18 := F18.binds (ps := ["d", "most"]) fun _ _ _ _ _ _ us hl => match us, hl with | [_, _], _ => rfl
  have F19 := fun_mk (st := s_law_gcd) l19 c19 k19
  have b19 := F19.binds (ps := ["a", "b"]) fun _ _ _ _ _ _ us hl => match us, hl with | [_, _], _ => rfl
  have F20 := fun_mk (st := s_law_f) l20 c20 k20
  have b20 := F20.binds (ps := ["a", "b"]) fun _ _ _ _ _ _ us hl => match us, hl with | [_, _], _ => rfl
  have F21 := fun_mk (st := s_law_part) l21 c21 k21
  have b21 := F21.binds (ps := ["d", "most"]) fun _ _ _ _ _ _ us hl => match us, hl with | [_, _], _ => rfl
  have F22 := fun_mk (st := s_law_vector) l22 c22 k22
  have b22 := F22.binds (ps := ["d", "most"]) fun _ _ _ _ _ _ us hl => match us, hl with | [_, _], _ => rfl
  have F23 := fun_mk (st := s_law_word) l23 c23 k23
  have b23 := F23.binds (ps := ["a"]) fun _ _ _ _ _ _ us hl => match us, hl with | [_], _ => rfl
  have F24 := fun_mk (st := s_law_text) l24 c24 k24
  have b24 := F24.binds (ps := ["run"]) fun _ _ _ _ _ _ us hl => match us, hl with | [_], _ => rfl
  have F25 := fun_mk (st := s_law_told) l25 c25 k25
  have b25 := F25.binds (ps := ["text"]) fun _ _ _ _ _ _ us hl => match us, hl with | [_], _ => rfl
  have F26 := fun_mk (st := s_law_run) l26 c26 k26
  have b26 := F26.binds (ps := ["d"]) fun _ _ _ _ _ _ us hl => match us, hl with | [_], _ => rfl
  have F27 := fun_mk (st := s_law_bent) l27 c27 k27
  have b27 := F27.binds (ps := ["d", "text"]) fun _ _ _ _ _ _ us hl => match us, hl with | [_, _], _ => rfl
  have F28 := fun_mk (st := s_law) l28 c28 k28
  have b28 := F28.binds (ps := ["script"]) fun _ _ _ _ _ _ us hl => match us, hl with | [_], _ => rfl
  have y_is_decimal := htab "is_decimal" _ _ tr_is_decimal tt_is_decimal
  letI : PL.Nm := ⟨fun _ => ("" : Str)⟩
  refine ⟨PySem.W.fnOf "law" "law" (defArgs s_law) (defBody s_law) (defScope s_law) .none kV28 dc28 pm28 an28 cd28 ct28, [(tca_is_decimal, tpa_is_decimal)], spLawT K ⟨[tpa_is_decimal], []⟩, ?_, ?_, ?_, fun s v => .of_eq rfl, fun H a ns hl hb hH hS => ⟨a, ns, rfl, hS, hl, PL.start_tabs hS ?_ ?_, fun _ => rfl⟩, fun base _ _ hTB => ?_⟩
  · intro p hp
    simp only [List.mem_cons, List.not_mem_nil, or_false] at hp
    subst hp
    exact y_is_decimal.2
  · intro p hp
    simp only [List.mem_cons, List.not_mem_nil, or_false] at hp
    subst hp
    exact tn_is_decimal
  · intro p hp
    simp only [List.mem_cons, List.not_mem_nil, or_false] at hp
    subst hp
    exact y_is_decimal.1
  · intro p hp
    simp only [List.mem_cons, List.not_mem_nil, or_false] at hp
    rcases hp with hp
    · exact ⟨#[], by rw [hp]; exact hH (tca_is_decimal, tpa_is_decimal) List.mem_cons_self, True.intro, fun hz => by cases hz⟩
  · intro p hp
    cases hp
  let Tp : Top K mg base := {
    f_fraction := f0, d_fraction := _, F_fraction := F0, g_fraction := PySem.W.mg_of X G a0, b_fraction := b0,
    f_decimal := f1, d_decimal := _, F_decimal := F1, g_decimal := PySem.W.mg_of X G a1, b_decimal := b1,
    tc_is_decimal := tca_is_decimal, tp_is_decimal := tpa_is_decimal, tb_is_decimal := ⟨(hTB _ List.mem_cons_self).code, (hTB _ List.mem_cons_self).bm, (hTB _ List.mem_cons_self).gP⟩,
    f_is_decimal := f2, d_is_decimal := _, F_is_decimal := F2, g_is_decimal := PySem.W.mg_of X G a2, b_is_decimal := b2,
    f_write_fraction := f3, d_write_fraction := _, F_write_fraction := F3, g_write_fraction := PySem.W.mg_of X G a3, b_write_fraction := b3,
    f_read_fraction := f4, d_read_fraction := _, F_read_fraction := F4, g_read_fraction := PySem.W.mg_of X G a4, b_read_fraction := b4,
    f_write_vector := f5, d_write_vector := _, F_write_vector := F5, g_write_vector := PySem.W.mg_of X G a5, b_write_vector := b5,
    f_lines_of := f6, d_lines_of := _, F_lines_of := F6, g_lines_of := PySem.W.mg_of X G a6, b_lines_of := b6,
    f_words_behind := f7, d_words_behind := _, F_words_behind := F7, g_words_behind := PySem.W.mg_of X G a7, b_words_behind := b7,
    f_read_integer := f8, d_read_integer := _, F_read_integer := F8, g_read_integer := PySem.W.mg_of X G a8, b_read_integer := b8,
    f_read_vector := f9, d_read_vector := _, F_read_vector := F9, g_read_vector := PySem.W.mg_of X G a9, b_read_vector := b9,
    f_write_run := f10, d_write_run := _, F_write_run := F10, g_write_run := PySem.W.mg_of X G a10, b_write_run := b10,
    f_lines_of_step := f11, d_lines_of_step := _, F_lines_of_step := F11, g_lines_of_step := PySem.W.mg_of X G a11, b_lines_of_step := b11,
    f_write_name := f12, d_write_name := _, F_write_name := F12, g_write_name := PySem.W.mg_of X G a12, b_write_name := b12,
    f_read_run := f13, d_read_run := _, F_read_run := F13, g_read_run := PySem.W.mg_of X G a13, b_read_run := b13,
    f_read_part := f14, d_read_part := _, F_read_part := F14, g_read_part := PySem.W.mg_of X G a14, b_read_part := b14,
    f_read_force := f15, d_read_force := _, F_read_force := F15, g_read_force := PySem.W.mg_of X G a15, b_read_force := b15,
    f_law_begin := f16, d_law_begin := _, F_law_begin := F16, g_law_begin := PySem.W.mg_of X G a16, b_law_begin := b16,
    f_law_take := f17, d_law_take := _, F_law_take := F17, g_law_take := PySem.W.mg_of X G a17, b_law_take := b17,
    f_law_signed := f18, d_law_signed := _, F_law_signed := F18, g_law_signed := PySem.W.mg_of X G a18, b_law_signed := b18,
    f_law_gcd := f19, d_law_gcd := _, F_law_gcd := F19, g_law_gcd := PySem.W.mg_of X G a19, b_law_gcd := b19,
    f_law_f := f20, d_law_f := _, F_law_f := F20, g_law_f := PySem.W.mg_of X G a20, b_law_f := b20,
    f_law_part := f21, d_law_part := _, F_law_part := F21, g_law_part := PySem.W.mg_of X G a21, b_law_part := b21,
    f_law_vector := f22, d_law_vector := _, F_law_vector := F22, g_law_vector := PySem.W.mg_of X G a22, b_law_vector := b22,
    f_law_word := f23, d_law_word := _, F_law_word := F23, g_law_word := PySem.W.mg_of X G a23, b_law_word := b23,
    f_law_text := f24, d_law_text := _, F_law_text := F24, g_law_text := PySem.W.mg_of X G a24, b_law_text := b24,
    f_law_told := f25, d_law_told := _, F_law_told := F25, g_law_told := PySem.W.mg_of X G a25, b_law_told := b25,
    f_law_run := f26, d_law_run := _, F_law_run := F26, g_law_run := PySem.W.mg_of X G a26, b_law_run := b26,
    f_law_bent := f27, d_law_bent := _, F_law_bent := F27, g_law_bent := PySem.W.mg_of X G a27, b_law_bent := b27,
    f_law := f28, d_law := _, F_law := F28, g_law := PySem.W.mg_of X G a28, b_law := b28,
    t_TEXT_LIMIT := kt_TEXT_LIMIT, gk_TEXT_LIMIT := PySem.W.mg_of X G ka_TEXT_LIMIT,
    t_FIGURE_LIMIT := kt_FIGURE_LIMIT, gk_FIGURE_LIMIT := PySem.W.mg_of X G ka_FIGURE_LIMIT,
    k_PART_WORDS := kk_PART_WORDS, gk_PART_WORDS := PySem.W.mg_of X G ka_PART_WORDS, dk_PART_WORDS := const_t kl_PART_WORDS rfl rfl (show 3 ≤ 100 by decide) (.cons ⟨_, rfl⟩ (.cons ⟨_, rfl⟩ (.cons ⟨_, rfl⟩ .nil))),
    tk_PART_WORDS := ⟨_, kl_PART_WORDS, rfl, rfl⟩,
    k_FORCE_KINDS := kk_FORCE_KINDS, gk_FORCE_KINDS := PySem.W.mg_of X G ka_FORCE_KINDS, dk_FORCE_KINDS := const_t kl_FORCE_KINDS rfl rfl (show 2 ≤ 100 by decide) (.cons ⟨_, rfl⟩ (.cons ⟨_, rfl⟩ .nil)),
    c_SteadyError := xx_SteadyError, gc_SteadyError := PySem.W.mg_of X G ea_SteadyError, xc_SteadyError := ex_SteadyError, kc_SteadyError := ek_SteadyError, bc_SteadyError := eb_SteadyError, tc_SteadyError := et_SteadyError, hc_SteadyError := eh_SteadyError,
    c_ZeroDenominator := xx_ZeroDenominator, gc_ZeroDenominator := PySem.W.mg_of X G ea_ZeroDenominator, xc_ZeroDenominator := ex_ZeroDenominator, kc_ZeroDenominator := ek_ZeroDenominator, bc_ZeroDenominator := eb_ZeroDenominator, tc_ZeroDenominator := et_ZeroDenominator, hc_ZeroDenominator := eh_ZeroDenominator,
    c_TextError := xx_TextError, gc_TextError := PySem.W.mg_of X G ea_TextError, xc_TextError := ex_TextError, kc_TextError := ek_TextError, bc_TextError := eb_TextError, tc_TextError := et_TextError, hc_TextError := eh_TextError,
    ac_SteadyError_SteadyError := es_SteadyError_SteadyError,
    ac_ZeroDenominator_ZeroDenominator := es_ZeroDenominator_ZeroDenominator,
    ac_ZeroDenominator_SteadyError := es_ZeroDenominator_SteadyError,
    ac_TextError_TextError := es_TextError_TextError,
    ac_TextError_SteadyError := es_TextError_SteadyError,
    no_ZeroDenominator_TextError := eo_ZeroDenominator_TextError,
    E_ZeroDenominator := ⟨ei1_ZeroDenominator, ei2_ZeroDenominator, eb_ZeroDenominator, eh_ZeroDenominator, ei3_ZeroDenominator, ei4_ZeroDenominator, ei5_ZeroDenominator, ei6_ZeroDenominator⟩,
    E_TextError := ⟨ei1_TextError, ei2_TextError, eb_TextError, eh_TextError, ei3_TextError, ei4_TextError, ei5_TextError, ei6_TextError⟩,
    n_abs := PySem.W.mg_none_of X G z_abs, n_all := PySem.W.mg_none_of X G z_all, n_divmod := PySem.W.mg_none_of X G z_divmod, n_int := PySem.W.mg_none_of X G z_int, n_isinstance := PySem.W.mg_none_of X G z_isinstance, n_len := PySem.W.mg_none_of X G z_len, n_list := PySem.W.mg_none_of X G z_list, n_range := PySem.W.mg_none_of X G z_range, n_reversed := PySem.W.mg_none_of X G z_reversed, n_str := PySem.W.mg_none_of X G z_str, n_tuple := PySem.W.mg_none_of X G z_tuple, n_digits := z_digits, n_gcd := PySem.W.mg_of X G z_gcd }
  rw [e]
  exact fok_law (P := PySem.Challenge.rw_steadybodies_k46_texts_of_runs.prog) (w := w) (base := base) Tp
end W
open PySem PySem.W PyProof.Rows
set_option maxHeartbeats 0 in
theorem PySem.Challenge.cw_steadybodies_k46_texts_of_runs_holds : PySem.Challenge.rw_steadybodies_k46_texts_of_runs.Holds := by
  w_on; o_law; k_head; (case hw => w_witness2)
  k_fill
  letI : PL.Nm := ⟨fun _ => ""⟩
  refine PL.walk_ofG (l := PySem.Challenge.rw_steadybodies_k46_texts_of_runs) (n := 63) (k := 8) (x := "script") (CX := fun _ => L2.CX0) rfl (by decide) rfl ⟨rfl, by decide, by decide⟩ (fun w h Y => PySem.W.kIn_of Y) ?F (fun _ _ _ _ _ h => h)
  case F =>
    intro w mg fa h KX G hmg htab
    refine' W.all_mk KX G hmg htab ?a0 ?l0 ?c0 ?k0 ?a1 ?l1 ?c1 ?k1 ?a2 ?l2 ?c2 ?k2 ?a3 ?l3 ?c3 ?k3 ?a4 ?l4 ?c4 ?k4 ?a5 ?l5 ?c5 ?k5 ?a6 ?l6 ?c6 ?k6 ?a7 ?l7 ?c7 ?k7 ?a8 ?l8 ?c8 ?k8 ?a9 ?l9 ?c9 ?k9 ?a10 ?l10 ?c10 ?k10 ?a11 ?l11 ?c11 ?k11 ?a12 ?l12 ?c12 ?k12 ?a13 ?l13 ?c13 ?k13 ?a14 ?l14 ?c14 ?k14 ?a15 ?l15 ?c15 ?k15 ?a16 ?l16 ?c16 ?k16 ?a17 ?l17 ?c17 ?k17 ?a18 ?l18 ?c18 ?k18 ?a19 ?l19 ?c19 ?k19 ?a20 ?l20 ?c20 ?k20 ?a21 ?l21 ?c21 ?k21 ?a22 ?l22 ?c22 ?k22 ?a23 ?l23 ?c23 ?k23 ?a24 ?l24 ?c24 ?k24 ?a25 ?l25 ?c25 ?k25 ?a26 ?l26 ?c26 ?k26 ?a27 ?l27 ?c27 ?k27 ?a28 ?l28 ?c28 ?k28 ?ce_is_decimal ?u_is_decimal ?uw_is_decimal ?tn_is_decimal ?tr_is_decimal ?ka_TEXT_LIMIT ?ka_FIGURE_LIMIT ?ka_PART_WORDS ?kl_PART_WORDS ?ka_FORCE_KINDS ?kl_FORCE_KINDS ?ea_SteadyError ?ex_SteadyError ?ek_SteadyError ?eb_SteadyError ?et_SteadyError ?eh_SteadyError ?ea_ZeroDenominator ?ex_ZeroDenominator ?ek_ZeroDenominator ?eb_ZeroDenominator ?et_ZeroDenominator ?eh_ZeroDenominator ?ea_TextError ?ex_TextError ?ek_TextError ?eb_TextError ?et_TextError ?eh_TextError ?es_SteadyError_SteadyError ?es_ZeroDenominator_ZeroDenominator ?es_ZeroDenominator_SteadyError ?es_TextError_TextError ?es_TextError_SteadyError ?eo_ZeroDenominator_TextError ?ei1_ZeroDenominator ?ei2_ZeroDenominator ?ei3_ZeroDenominator ?ei4_ZeroDenominator ?ei5_ZeroDenominator ?ei6_ZeroDenominator ?ei1_TextError ?ei2_TextError ?ei3_TextError ?ei4_TextError ?ei5_TextError ?ei6_TextError ?z_abs ?z_all ?z_divmod ?z_int ?z_isinstance ?z_len ?z_list ?z_range ?z_reversed ?z_str ?z_tuple ?z_digits ?z_gcd
    (case a0 => k_is); (case l0 => k_is); (case c0 => k_is); (case k0 => k_is); (case a1 => k_is); (case l1 => k_is); (case c1 => k_is); (case k1 => k_is); (case a2 => k_is); (case l2 => k_is); (case c2 => k_is); (case k2 => k_is); (case a3 => k_is); (case l3 => k_is); (case c3 => k_is); (case k3 => k_is); (case a4 => k_is); (case l4 => k_is); (case c4 => k_is); (case k4 => k_is); (case a5 => k_is); (case l5 => k_is); (case c5 => k_is); (case k5 => k_is); (case a6 => k_is); (case l6 => k_is); (case c6 => k_is); (case k6 => k_is); (case a7 => k_is); (case l7 => k_is); (case c7 => k_is); (case k7 => k_is); (case a8 => k_is); (case l8 => k_is); (case c8 => k_is); (case k8 => k_is); (case a9 => k_is); (case l9 => k_is); (case c9 => k_is); (case k9 => k_is); (case a10 => k_is); (case l10 => k_is); (case c10 => k_is); (case k10 => k_is); (case a11 => k_is); (case l11 => k_is); (case c11 => k_is); (case k11 => k_is); (case a12 => k_is); (case l12 => k_is); (case c12 => k_is); (case k12 => k_is); (case a13 => k_is); (case l13 => k_is); (case c13 => k_is); (case k13 => k_is); (case a14 => k_is); (case l14 => k_is); (case c14 => k_is); (case k14 => k_is); (case a15 => k_is); (case l15 => k_is); (case c15 => k_is); (case k15 => k_is); (case a16 => k_is); (case l16 => k_is); (case c16 => k_is); (case k16 => k_is); (case a17 => k_is); (case l17 => k_is); (case c17 => k_is); (case k17 => k_is); (case a18 => k_is); (case l18 => k_is); (case c18 => k_is); (case k18 => k_is); (case a19 => k_is); (case l19 => k_is); (case c19 => k_is); (case k19 => k_is); (case a20 => k_is); (case l20 => k_is); (case c20 => k_is); (case k20 => k_is); (case a21 => k_is); (case l21 => k_is); (case c21 => k_is); (case k21 => k_is); (case a22 => k_is); (case l22 => k_is); (case c22 => k_is); (case k22 => k_is); (case a23 => k_is); (case l23 => k_is); (case c23 => k_is); (case k23 => k_is); (case a24 => k_is); (case l24 => k_is); (case c24 => k_is); (case k24 => k_is); (case a25 => k_is); (case l25 => k_is); (case c25 => k_is); (case k25 => k_is); (case a26 => k_is); (case l26 => k_is); (case c26 => k_is); (case k26 => k_is); (case a27 => k_is); (case l27 => k_is); (case c27 => k_is); (case k27 => k_is); (case a28 => k_is); (case l28 => k_is); (case c28 => k_is); (case k28 => k_is); (case ce_is_decimal => rfl); (case u_is_decimal => k_is); (case uw_is_decimal => rfl); (case tn_is_decimal => kernel_rfl); (case tr_is_decimal => decide +kernel); (case ka_TEXT_LIMIT => k_is); (case ka_FIGURE_LIMIT => k_is); (case ka_PART_WORDS => k_is); (case kl_PART_WORDS => k_is); (case ka_FORCE_KINDS => k_is); (case kl_FORCE_KINDS => k_is); (case ea_SteadyError => k_is); (case ex_SteadyError => k_exc); (case ek_SteadyError => k_is); (case eb_SteadyError => k_is); (case et_SteadyError => k_is); (case eh_SteadyError => k_is); (case ea_ZeroDenominator => k_is); (case ex_ZeroDenominator => k_exc); (case ek_ZeroDenominator => k_is); (case eb_ZeroDenominator => k_is); (case et_ZeroDenominator => k_is); (case eh_ZeroDenominator => k_is); (case ea_TextError => k_is); (case ex_TextError => k_exc); (case ek_TextError => k_is); (case eb_TextError => k_is); (case et_TextError => k_is); (case eh_TextError => k_is); (case es_SteadyError_SteadyError => k_is); (case es_ZeroDenominator_ZeroDenominator => k_is); (case es_ZeroDenominator_SteadyError => k_is); (case es_TextError_TextError => k_is); (case es_TextError_SteadyError => k_is); (case eo_ZeroDenominator_TextError => k_is); (case ei1_ZeroDenominator => k_is); (case ei2_ZeroDenominator => k_is); (case ei3_ZeroDenominator => k_is); (case ei4_ZeroDenominator => k_is); (case ei5_ZeroDenominator => k_is); (case ei6_ZeroDenominator => k_is); (case ei1_TextError => k_is); (case ei2_TextError => k_is); (case ei3_TextError => k_is); (case ei4_TextError => k_is); (case ei5_TextError => k_is); (case ei6_TextError => k_is); (case z_abs => k_is); (case z_all => k_is); (case z_divmod => k_is); (case z_int => k_is); (case z_isinstance => k_is); (case z_len => k_is); (case z_list => k_is); (case z_range => k_is); (case z_reversed => k_is); (case z_str => k_is); (case z_tuple => k_is); (case z_digits => k_is); (case z_gcd => k_is)

