import PyProof.Rows.All
import Wide.All
import OpenK.AllK
import Wide.FinOn
import PySem.Challenge.RW_steadybodies_k43_limbs_and_their_play
import HandS.ForMost
import HandS.ForExc
import HandS.Wide
import HandS.Gcd
import HandS.IsInst
import HandS.ExcIs
import HandS.Deep
import HandS.Zip
import KE.GoesNew
import HandS.GenList
import KE.KDictZip
import KE.KTurns
import HandS.EndTab
import HandS.AnyAll
import HandS.HotCalls
import HandS.TupAny
import HandS.TupMul
import HandS.DictComp
import HandS.SortRule
import HandS.Sort
import KE.KDictPairs
import KE.KEqDict
import HandS.DictTup
import HandS.TryOnly
import HandS.Lambda
import KE.SortKeyHeap
import HandS.ForMost
import HandS.ForExc
import HandS.Wide
import HandS.Gcd
import HandS.Iter
import HandS.Walk
import HandS.Comp
import KE.GoesComp
import HandS.Strs
import HandS.Style
import HandS.MapJoin
import PyProof.CollectIter
import HandS.Text
import KE.KIntText
import PyProof.Rows.Digits
import HandS.StrMore
import HandS.WideBits
import HandS.SetFor
import PyProof.StrLawsIn
import HandS.SetBool
import HandS.TupSets
import KE.KDictList
import HandS.Conv
import HandS.Star
import HandS.WordsDict
import HandS.More
set_option Elab.async false
set_option linter.all false
set_option maxRecDepth 100000
set_option maxHeartbeats 4000000
set_option exponentiation.threshold 10000
/-! A layer over the hand layer: big steps over data. -/
namespace PL
open PySem PySem.Spec PyProof.Rows L2
/-- the names of the lambdas that tables of code objects tell of -/
class Nm where
  nm : Addr → Str
/-- tables of code objects: of generators, of lambdas -/
structure Tbs where
  gs : List Addr
  ls : List Addr
/-- a value as data, or the address of an object that may change -/
inductive Dat where
  | d (x : PyData)
  | r (a : Addr)
  | l (ds : List PyData)
  | k (kvs : List (Key × PyData))
  | u (xs : List PyData)
  | p (φ : Hp → V → Prop)
abbrev Dat.i (n : Int) : Dat := .d (.int n)
abbrev Dat.b (b : Bool) : Dat := .d (.bool b)
abbrev Dat.t (xs : List PyData) : Dat := .d (.tuple xs)
/-- o stands where it stood; a code object's table may have grown -/
def Kpt (o : HO) (x : Option HO) : Prop := match o with
  | .tbl ps => ∃ qs : Array Value, x = some (.tbl qs) ∧ (TriplesOk ps.toList → TriplesOk qs.toList)
  | o => x = some o
theorem Kpt.of {o : HO} {x : Option HO} (h : x = some o) : Kpt o x := by
  cases o with
  | tbl ps => exact ⟨ps, h, id⟩
  | _ => exact h
theorem Kpt.some {o : HO} {x : Option HO} (h : Kpt o x) : ∃ u, x = some u ∧ ((∀ ps, o ≠ .tbl ps) → u = o) := by
  cases o with
  | tbl ps =>
    obtain ⟨qs, e, _⟩ := h
    exact ⟨_, e, fun z => (z ps rfl).elim⟩
  | _ => exact ⟨_, h, fun _ => rfl⟩
theorem Kpt.trans {o : HO} {x y : Option HO} (h : Kpt o x) (g : ∀ u, x = Option.some u → Kpt u y) : Kpt o y := by
  cases o with
  | tbl ps =>
    obtain ⟨qs, e, t⟩ := h
    obtain ⟨rs, e2, t2⟩ := g _ e
    exact ⟨rs, e2, fun z => t2 (t z)⟩
  | _ => exact g _ h
def Same (H H' : Hp) : Prop := ∀ b o, H b = some o → Kpt o (H' b)
theorem Same.refl (H : Hp) : Same H H := fun _ _ h => .of h
theorem Same.trans {H H1 H2 : Hp} (a : Same H H1) (b : Same H1 H2) : Same H H2 := fun c o h => (a c o h).trans fun u e => b c u e
theorem Same.free {H H' : Hp} (e : Same H H') {l : Addr} (h : H' l = none) : H l = none := by
  cases z : H l with
  | none => rfl
  | some o =>
    obtain ⟨u, hu, _⟩ := (e l o z).some
    rw [h] at hu
    cases hu
theorem Same.seq {K : PySem.W.Frag} {H H' : Hp} {a : Addr} {xs : List V} (e : Same H H') (h : SqL K H a xs) : SqL K H' a xs := by
  rcases h with (h | ⟨o, h⟩) | h
  · exact .inl (.inl (e _ _ h))
  · exact .inl (.inr ⟨o, e _ _ h⟩)
  · exact .inr h
section
variable {K : PySem.W.Frag} {G H G1 H1 G2 H2 H' : Hp}
theorem same_new {p : Addr} {o : HO} (h : H p = none) : Same H (upd H p o) := fun a u e => by
  rw [upd_ne (ne_of_none e h)]
  exact .of e
theorem same_t {a : Addr} {xs : List V} (e : Same H H') (h : SqT K H a xs) : SqT K H' a xs := by
  rcases h with (h | ⟨o, h⟩) | h
  · exact .inl (.inl (e _ _ h))
  · exact .inl (.inr ⟨o, e _ _ h⟩)
  · exact .inr h
mutual
theorem dp_mono (e : Same H H') : ∀ (d : PyData) (v : V), Dp K H v d → Dp K H' v d
  | .none, _, h => by cases h; exact .non
  | .bool b, _, h => by cases h; exact .bl b
  | .int i, _, h => by cases h; exact .int i
  | .str x, _, h => by cases h; exact .str x
  | .list ds, _, h => by
    cases h with
    | lst a b => exact .lst (e.seq a) (dp_monos e ds _ b)
  | .tuple ds, _, h => by
    cases h with
    | tup a b => exact .tup (same_t e a) (dp_monos e ds _ b)
  | .dict _, _, h => by cases h
theorem dp_monos (e : Same H H') : ∀ (ds : List PyData) (vs : List V), DpAll K H vs ds → DpAll K H' vs ds
  | [], _, h => by cases h; exact .nil
  | d :: ds, _, h => by
    cases h with
    | cons a b => exact .cons (dp_mono e d _ a) (dp_monos e ds _ b)
end
theorem dpa_get : ∀ {vs : List V} {ds : List PyData} {i : Nat} {d : PyData}, DpAll K G vs ds → ds[i]? = some d → ∃ v, vs[i]? = some v ∧ Dp K G v d
  | _, _, _, _, .nil, e => by simp at e
  | _, _, 0, _, .cons a _, e => by
    simp at e
    subst e
    exact ⟨_, rfl, a⟩
  | _, _, i + 1, d, .cons _ b, e => by
    obtain ⟨v, h1, h2⟩ := dpa_get (i := i) (d := d) b (by simpa using e)
    exact ⟨v, by simpa using h1, h2⟩
theorem dpa_len : ∀ {vs : List V} {ds : List PyData}, DpAll K G vs ds → vs.length = ds.length
  | _, _, .nil => rfl
  | _, _, .cons _ b => by
    rw [List.length_cons, List.length_cons, dpa_len b]
theorem dpa_ints : ∀ (ns : List Int), DpAll K G (ns.map V.int) (ns.map PyData.int)
  | [] => .nil
  | n :: ns => .cons (.int n) (dpa_ints ns)
theorem dpa_app : ∀ {vs ws : List V} {ds es : List PyData}, DpAll K G vs ds → DpAll K G ws es → DpAll K G (vs ++ ws) (ds ++ es)
  | _, _, _, _, .nil, h => h
  | _, _, _, _, .cons a b, h => .cons a (dpa_app b h)
/-- a dict's items as data -/
def KvAll (K : PySem.W.Frag) (G : Hp) (vs : List (Key × V)) (kvs : List (Key × PyData)) : Prop := vs.map (·.1) = kvs.map (·.1) ∧ DpAll K G (vs.map (·.2)) (kvs.map (·.2))
def Dv (K : PySem.W.Frag) (G : Hp) (v : V) : Dat → Prop
  | .d x => Dp K G v x
  | .r a => v = .ref a
  | .l ds => ∃ a vs, v = .ref a ∧ G a = some (.lst vs) ∧ DpAll K G vs ds
  | .k kvs => ∃ a vs, v = .ref a ∧ G a = some (.dK vs) ∧ KvAll K G vs kvs
  | .u xs => ∃ a o vs, v = .ref a ∧ G a = some (.frz o (.tup vs)) ∧ o.dict = none ∧ DpAll K G vs xs
  | .p φ => ∃ G0, Same G0 G ∧ φ G0 v
theorem dv_mono {v : V} {d : Dat} (e : Same H H') (h : Dv K H v d) : Dv K H' v d := by
  cases d with
  | d x => exact dp_mono e x v h
  | r a => exact h
  | l ds =>
    obtain ⟨a, vs, h1, h2, h3⟩ := h
    exact ⟨a, vs, h1, e _ _ h2, dp_monos e ds vs h3⟩
  | k kvs =>
    obtain ⟨a, vs, h1, h2, h3⟩ := h
    exact ⟨a, vs, h1, e _ _ h2, h3.1, dp_monos e _ _ h3.2⟩
  | u xs =>
    obtain ⟨a, o, vs, h1, h2, h3, h4⟩ := h
    exact ⟨a, o, vs, h1, e _ _ h2, h3, dp_monos e _ _ h4⟩
  | p φ =>
    obtain ⟨G0, h1, h2⟩ := h
    exact ⟨G0, h1.trans e, h2⟩
def DvAll (K : PySem.W.Frag) (G : Hp) : List V → List Dat → Prop
  | [], [] => True
  | v :: vs, d :: ds => Dv K G v d ∧ DvAll K G vs ds
  | [], _ :: _ => False
  | _ :: _, [] => False
theorem dva_mono (e : Same H H') : ∀ {vs : List V} {ds : List Dat}, DvAll K H vs ds → DvAll K H' vs ds
  | [], [], _ => trivial
  | _ :: _, _ :: _, h => ⟨dv_mono e h.1, dva_mono e h.2⟩
  | [], _ :: _, h => h.elim
  | _ :: _, [], h => h.elim
theorem dva_len : ∀ {vs : List V} {ds : List Dat}, DvAll K H vs ds → vs.length = ds.length
  | [], [], _ => rfl
  | _ :: vs, _ :: ds, h => by
    rw [List.length_cons, List.length_cons, dva_len h.2]
  | [], _ :: _, h => h.elim
  | _ :: _, [], h => h.elim
theorem dva_dp : ∀ {vs : List V} {ds : List PyData}, DvAll K H vs (ds.map Dat.d) → DpAll K H vs ds
  | [], [], _ => .nil
  | _ :: _, _ :: _, h => .cons h.1 (dva_dp h.2)
  | [], _ :: _, h => h.elim
  | _ :: _, [], h => h.elim
def SlD (K : PySem.W.Frag) (G : Hp) (s : Option V) : Option Dat → Prop
  | none => True
  | some d => ∃ v, s = some v ∧ Dv K G v d
theorem sld_mono {s : Option V} {o : Option Dat} (e : Same H H') (h : SlD K H s o) : SlD K H' s o := by
  cases o with
  | none => trivial
  | some d =>
    obtain ⟨v, h1, h2⟩ := h
    exact ⟨v, h1, dv_mono e h2⟩
abbrev Rho := List (Option Dat)
def EnvD (K : PySem.W.Frag) (G : Hp) : List (Option V) → Rho → Prop
  | [], [] => True
  | s :: σ, o :: ρ => SlD K G s o ∧ EnvD K G σ ρ
  | [], _ :: _ => False
  | _ :: _, [] => False
theorem env_mono (e : Same H H') : ∀ {σ : List (Option V)} {ρ : Rho}, EnvD K H σ ρ → EnvD K H' σ ρ
  | [], [], _ => trivial
  | _ :: _, _ :: _, h => ⟨sld_mono e h.1, env_mono e h.2⟩
  | [], _ :: _, h => h.elim
  | _ :: _, [], h => h.elim
theorem env_get : ∀ {σ : List (Option V)} {ρ : Rho} {i : Nat} {d : Dat}, EnvD K G σ ρ → ρ[i]? = some (some d) → ∃ v, σ[i]? = some (some v) ∧ Dv K G v d
  | [], [], _, _, _, e => by simp at e
  | _ :: _, _ :: _, 0, d, h, e => by
    simp at e
    subst e
    obtain ⟨v, h1, h2⟩ := h.1
    exact ⟨v, by simp [h1], h2⟩
  | _ :: σ, _ :: ρ, i + 1, d, h, e => by
    obtain ⟨v, h1, h2⟩ := env_get (i := i) (d := d) h.2 (by simpa using e)
    exact ⟨v, by simpa using h1, h2⟩
  | [], _ :: _, _, _, h, _ => h.elim
  | _ :: _, [], _, _, h, _ => h.elim
theorem env_set {v : V} {d : Dat} (hv : Dv K G v d) : ∀ {σ : List (Option V)} {ρ : Rho} {i : Nat}, EnvD K G σ ρ → EnvD K G (σ.set i (some v)) (ρ.set i (some d))
  | [], [], _, _ => trivial
  | _ :: _, _ :: _, 0, h => ⟨⟨v, rfl, hv⟩, h.2⟩
  | _ :: σ, _ :: ρ, i + 1, h => ⟨h.1, env_set hv (i := i) h.2⟩
  | [], _ :: _, _, h => h.elim
  | _ :: _, [], _, h => h.elim
/-- less is known -/
def Less : Rho → Rho → Prop
  | [], [] => True
  | a :: ρ, b :: ρ' => (b = none ∨ a = b) ∧ Less ρ ρ'
  | [], _ :: _ => False
  | _ :: _, [] => False
theorem env_less : ∀ {σ : List (Option V)} {ρ ρ' : Rho}, Less ρ ρ' → EnvD K G σ ρ → EnvD K G σ ρ'
  | [], [], [], _, _ => trivial
  | _ :: _, _ :: _, _ :: _, l, h => ⟨by
      rcases l.1 with e | e
      · rw [e]; trivial
      · rw [← e]; exact h.1, env_less l.2 h.2⟩
  | _, [], _ :: _, l, _ => l.elim
  | _, _ :: _, [], l, _ => l.elim
  | [], _ :: _, _, _, h => h.elim
  | _ :: _, [], _, _, h => h.elim
theorem env_nones : ∀ (n : Nat), EnvD K G (List.replicate n none) (List.replicate n none)
  | 0 => trivial
  | n + 1 => ⟨trivial, env_nones n⟩
theorem env_start : ∀ {vs : List V} {ds : List Dat} (n : Nat), DvAll K G vs ds → EnvD K G (vs.map some ++ List.replicate n none) (ds.map some ++ List.replicate n none)
  | [], [], n, _ => env_nones n
  | v :: _, _ :: _, n, h => ⟨⟨v, rfl, h.1⟩, env_start n h.2⟩
  | [], _ :: _, _, h => h.elim
  | _ :: _, [], _, h => h.elim
/-! ### steps of the heap; what is said of it -/
variable [Nm]
/-- the table at P tells lambdas of its name alone, and is told of to nobody -/
def LamT (G H : Hp) (P : Addr) : Prop := G P = none ∧ LamX.TabS H P (Nm.nm P)
/-- all that the table leans on stays -/
theorem LamT.keep {G G' H H' : Hp} {P : Addr} (t : LamT G H P) (g : G P = none → G' P = none) (h : ∀ b o, H b = some o → (∀ ps, o ≠ .tbl ps ∨ b = P) → ((∃ ps, o = .tbl ps) ∨ ∃ q, o = LamX.CodeO b q) → H' b = some o) : LamT G' H' P := by
  obtain ⟨t0, ps, t1, t2, t3⟩ := t
  refine ⟨g t0, ps, h P _ t1 (fun _ => .inr rfl) (.inl ⟨ps, rfl⟩), t2, fun pos cv hc => ?_⟩
  obtain ⟨c, e1, e2⟩ := t3 pos cv hc
  exact ⟨c, e1, h c _ e2 (fun ps' => .inl (LamX.codeO_ne ps')) (.inr ⟨_, rfl⟩)⟩
theorem LamT.some {G H : Hp} {P : Addr} (t : LamT G H P) : ∃ ps, H P = Option.some (HO.tbl ps) := let ⟨_, ps, h, _⟩ := t; ⟨ps, h⟩
structure Stp (M : Addr → Prop) (G H G2 H2 : Hp) : Prop where
  gg : Same G G2
  gh : Same G2 H2
  hh : ∀ a o, ¬ M a → H a = some o → Kpt o (H2 a)
  fr : ∀ a o, ¬ M a → H a = some o → G a = none → G2 a = none
  ex : ∀ a o, H a = some o → ∃ u, H2 a = some u
  lt : ∀ P, LamT G H P → LamT G2 H2 P
abbrev NoA : Addr → Prop := fun _ => False
theorem Stp.refl {M : Addr → Prop} (h : Same G H) : Stp M G H G H := ⟨Same.refl _, h, fun _ _ _ e => .of e, fun _ _ _ _ e => e, fun _ o e => ⟨o, e⟩, fun _ t => t⟩
theorem Stp.trans {M : Addr → Prop} (a : Stp M G H G1 H1) (b : Stp M G1 H1 G2 H2) : Stp M G H G2 H2 :=
  ⟨a.gg.trans b.gg, b.gh, fun c o n e => (a.hh c o n e).trans fun u z => b.hh c u n z, fun c o m e n => by
    obtain ⟨u, hu⟩ := a.ex c o e
    exact b.fr c u m hu (a.fr c o m e n), fun c o e => by
    obtain ⟨u, hu⟩ := a.ex c o e
    exact b.ex c u hu, fun P t => b.lt P (a.lt P t)⟩
theorem Stp.wide {M M' : Addr → Prop} (h : ∀ a, M a → M' a) (a : Stp M G H G2 H2) : Stp M' G H G2 H2 :=
  ⟨a.gg, a.gh, fun c o n e => a.hh c o (fun z => n (h c z)) e, fun c o n => a.fr c o (fun z => n (h c z)), a.ex, a.lt⟩
/-- a new object that never changes -/
theorem Stp.new {p : Addr} {o : HO} (h : Same G H) (hp : H p = none) : Stp NoA G H (upd G p o) (upd H p o) := by
  have gp : G p = none := h.free hp
  refine ⟨same_new gp, fun a u e => ?_, fun a u _ e => ?_, fun a u _ e n => ?_, fun a u e => ?_, fun P t => ?_⟩
  · by_cases z : a = p
    · subst z
      rw [upd_same] at e ⊢
      exact .of e
    · rw [upd_ne z] at e ⊢
      exact h a u e
  · rw [upd_ne (ne_of_none e hp)]
    exact .of e
  · rw [upd_ne (ne_of_none e hp)]
    exact n
  · exact ⟨u, by rw [upd_ne (ne_of_none e hp)]; exact e⟩
  · obtain ⟨ps, hP⟩ := t.some
    exact t.keep (fun g => by rw [upd_ne (ne_of_none hP hp)]; exact g) fun b o e _ _ => by rw [upd_ne (ne_of_none e hp)]; exact e
/-- a new object that may change -/
theorem Stp.newM {p : Addr} {o : HO} (h : Same G H) (hp : H p = none) : Stp NoA G H G (upd H p o) :=
  ⟨Same.refl _, h.trans (same_new hp), fun a u _ e => by rw [upd_ne (ne_of_none e hp)]; exact .of e, fun _ _ _ _ n => n, fun a u e => ⟨u, by rw [upd_ne (ne_of_none e hp)]; exact e⟩, fun P t => t.keep (fun g => g) fun b o e _ _ => by rw [upd_ne (ne_of_none e hp)]; exact e⟩
/-- a store -/
theorem Stp.store {p : Addr} {o u : HO} (h : Same G H) (gp : G p = none) (hp : H p = some u) (nt : (∀ ps, u ≠ .tbl ps) ∧ ∀ q, u ≠ LamX.CodeO p q := by exact ⟨fun _ z => (by cases z), fun _ z => (by unfold LamX.CodeO at z; cases z)⟩) : Stp (· = p) G H G (upd H p o) :=
  ⟨Same.refl _, fun a x e => by
    rw [upd_ne (ne_of_none e gp)]
    exact h a x e, fun a x n e => by
    rw [upd_ne n]
    exact .of e, fun _ _ _ _ n => n, fun a x e => by
    by_cases z : a = p
    · subst z
      exact ⟨o, upd_same⟩
    · exact ⟨x, by rw [upd_ne z]; exact e⟩, fun P t => t.keep (fun g => g) fun b x e _ k => by
    have ne : b ≠ p := fun z => by
      rw [z, hp] at e
      rcases k with ⟨ps, k⟩ | ⟨f, k⟩
      · exact nt.1 ps ((Option.some.inj e).trans k)
      · exact nt.2 f ((Option.some.inj e).trans (by rw [k, z]))
    rw [upd_ne ne]
    exact e⟩
/-- a table grows -/
theorem Stp.tab {p : Addr} {ps qs : Array Value} (h : Same G H) (gp : G p ≠ none) (hp : H p = some (.tbl ps)) (t : TriplesOk ps.toList → TriplesOk qs.toList) : Stp NoA G H G (upd H p (.tbl qs)) := by
  have k : ∀ a x, H a = some x → Kpt x (upd H p (.tbl qs) a) := fun a x e => by
    by_cases z : a = p
    · subst z
      rw [hp] at e
      cases e
      exact ⟨qs, upd_same, t⟩
    · rw [upd_ne z]
      exact .of e
  exact ⟨Same.refl _, fun a x e => (h a x e).trans fun u z => k a u z, fun a x _ e => k a x e, fun _ _ _ _ n => n, fun a x e => let ⟨u, z, _⟩ := (k a x e).some; ⟨u, z⟩, fun P t => t.keep (fun g => g) fun b x e n _ => by
    have ne : b ≠ p := fun z => by
      rw [z, hp] at e
      rcases n ps with n | n
      · exact n (Option.some.inj e).symm
      · exact gp (by rw [← z, n]; exact t.1)
    rw [upd_ne ne]
    exact e⟩
/-- the tables at these places are known -/
def TabsIn (T : Tbs) (G H : Hp) : Prop := (∀ p ∈ T.gs, ∃ ps : Array Value, G p = some (.tbl ps) ∧ TriplesOk ps.toList) ∧ ∀ P ∈ T.ls, LamT G H P
theorem TabsIn.go {M : Addr → Prop} {T : Tbs} (h : TabsIn T G H) (s : Stp M G H G2 H2) : TabsIn T G2 H2 := ⟨fun p hp => by
  obtain ⟨ps, e1, t⟩ := h.1 p hp
  obtain ⟨qs, e2, t2⟩ := s.gg p _ e1
  exact ⟨qs, e2, t2 t⟩, fun P hP => s.lt P (h.2 P hP)⟩
structure Asn where
  foot : Addr → Prop
  ok : Hp → Hp → Prop
  st : ∀ (M : Addr → Prop) (G H G2 H2 : Hp), (∀ a, foot a → ¬ M a) → Stp M G H G2 H2 → ok G H → ok G2 H2
  own : ∀ (G H : Hp) (a : Addr), ok G H → foot a → ∃ o, H a = some o
theorem Asn.pure_st {I : Asn} (s : Stp NoA G H G2 H2) (h : I.ok G H) : I.ok G2 H2 := I.st NoA G H G2 H2 (fun _ _ z => z) s h
def Asn.tt : Asn := ⟨NoA, fun _ _ => True, fun _ _ _ _ _ _ _ _ => trivial, fun _ _ _ _ z => z.elim⟩
def Asn.and (I J : Asn) : Asn := ⟨fun a => I.foot a ∨ J.foot a, fun G H => I.ok G H ∧ J.ok G H, fun M G H G2 H2 n s h => ⟨I.st M G H G2 H2 (fun a z => n a (.inl z)) s h.1, J.st M G H G2 H2 (fun a z => n a (.inr z)) s h.2⟩, fun G H a h z => z.elim (I.own G H a h.1) (J.own G H a h.2)⟩
/-- all that was, but M's, stands as it stood -/
def Asn.since (M : Addr → Prop) (G0 H0 : Hp) : Asn := ⟨fun a => ¬ M a ∧ ∃ o, H0 a = some o, fun G H => Stp M G0 H0 G H, fun M' G H G2 H2 n s h =>
  ⟨h.gg.trans s.gg, s.gh, fun a o m e => (h.hh a o m e).trans fun u z => s.hh a u (n a ⟨m, o, e⟩) z, fun a o m e g => by
    obtain ⟨u, hu⟩ := h.ex a o e
    exact s.fr a u (n a ⟨m, o, e⟩) hu (h.fr a o m e g), fun a o e => by
    obtain ⟨u, hu⟩ := h.ex a o e
    exact s.ex a u hu, fun P t => s.lt P (h.lt P t)⟩, fun G H a h ⟨_, o, e⟩ => h.ex a o e⟩
/-! ### judgements -/
def E (K : PySem.W.Frag) (te : TE) (ρ : Rho) (I : Asn) (d : Dat) (J : Asn) : Prop :=
  ∀ G H σ, Same G H → EnvD K G σ ρ → I.ok G H → ∀ Q : VK, (∀ v G2 H2, Same G G2 → Same G2 H2 → J.ok G2 H2 → Dv K G2 v d → Q v H2) → te σ H Q
def A (K : PySem.W.Frag) (ta : TA) (ρ : Rho) (I : Asn) (ds : List Dat) (J : Asn) : Prop :=
  ∀ G H σ, Same G H → EnvD K G σ ρ → I.ok G H → ∀ Q : List V → Hp → Prop, (∀ vs G2 H2, Same G G2 → Same G2 H2 → J.ok G2 H2 → DvAll K G2 vs ds → Q vs H2) → ta σ H Q
def T (K : PySem.W.Frag) (tt : TT) (ρ : Rho) (I : Asn) (b : Bool) (J : Asn) : Prop :=
  ∀ G H σ, Same G H → EnvD K G σ ρ → I.ok G H → ∀ Q : Bool → Hp → Prop, (∀ G2 H2, Same G G2 → Same G2 H2 → J.ok G2 H2 → Q b H2) → tt σ H Q
inductive Out where
  | nx (ρ : Rho) (J : Asn)
  | rt (d : Dat) (J : Asn)
  | bk (ρ : Rho) (J : Asn)
  | ct (ρ : Rho) (J : Asn)
  | fin (P : V → Hp → Hp → Prop)
  | ne (P : Rho → Asn → Prop)
def Fin (K : PySem.W.Frag) (D : Ends) (G : Hp) : Out → Prop
  | .nx ρ J => ∀ G2 H2 σ, Same G G2 → Same G2 H2 → EnvD K G2 σ ρ → J.ok G2 H2 → D.nx σ H2
  | .bk ρ J => ∀ G2 H2 σ, Same G G2 → Same G2 H2 → EnvD K G2 σ ρ → J.ok G2 H2 → D.bk σ H2
  | .ct ρ J => ∀ G2 H2 σ, Same G G2 → Same G2 H2 → EnvD K G2 σ ρ → J.ok G2 H2 → D.ct σ H2
  | .rt d J => ∀ v G2 H2, Same G G2 → Same G2 H2 → J.ok G2 H2 → Dv K G2 v d → D.rt v H2
  | .fin P => ∀ v G2 H2, Same G G2 → Same G2 H2 → P v G2 H2 → D.rt v H2
  | .ne P => ∀ ρ J, P ρ J → ∀ G2 H2 σ, Same G G2 → Same G2 H2 → EnvD K G2 σ ρ → J.ok G2 H2 → D.nx σ H2
theorem Fin.mono {D : Ends} {k : Out} (e : Same G G1) (h : Fin K D G k) : Fin K D G1 k := by
  cases k with
  | nx ρ J => exact fun G2 H2 σ a => h G2 H2 σ (e.trans a)
  | bk ρ J => exact fun G2 H2 σ a => h G2 H2 σ (e.trans a)
  | ct ρ J => exact fun G2 H2 σ a => h G2 H2 σ (e.trans a)
  | rt d J => exact fun v G2 H2 a => h v G2 H2 (e.trans a)
  | fin P => exact fun v G2 H2 a => h v G2 H2 (e.trans a)
  | ne P => exact fun ρ J p G2 H2 σ a => h ρ J p G2 H2 σ (e.trans a)
def S (K : PySem.W.Frag) (t : TS) (ρ : Rho) (I : Asn) (k : Out) : Prop :=
  ∀ G H σ (D : Ends), Same G H → EnvD K G σ ρ → I.ok G H → Fin K D G k → t D σ H
end
variable [Nm]
section
variable {K : PySem.W.Frag} {ρ ρ1 : Rho} {I J L N : Asn} {ta tb tc te : TE} {d e : Dat} {t u : TT} {b c : Bool}
/-! ### expressions -/
theorem e_var {i : Nat} (h : ρ[i]? = some (some d)) : E K (tVar i) ρ I d I := fun G H σ gh en io Q q => by
  obtain ⟨v, h1, h2⟩ := env_get en h
  exact ⟨v, h1, q v G H (Same.refl _) gh io h2⟩
theorem e_int {i : Int} : E K (tC (.int i)) ρ I (.i i) I := fun G H σ gh en io Q q => q _ G H (Same.refl _) gh io (.int i)
theorem e_bl {i : Bool} : E K (tC (.bl i)) ρ I (.b i) I := fun G H σ gh en io Q q => q _ G H (Same.refl _) gh io (.bl i)
theorem e_str {i : Str} : E K (tC (.str i)) ρ I (.d (.str i)) I := fun G H σ gh en io Q q => q _ G H (Same.refl _) gh io (.str i)
theorem e_non : E K (tC .non) ρ I (.d .none) I := fun G H σ gh en io Q q => q _ G H (Same.refl _) gh io .non
/-- a two-place operation on values -/
theorem e_op {r : R2} {f : Dat} (ha : E K ta ρ I d J) (hb : E K tb ρ J e L) (hr : ∀ G H x y, Same G H → L.ok G H → Dv K G x d → Dv K G y e → ∀ Q : VK, (∀ v G2 H2, Same G G2 → Same G2 H2 → N.ok G2 H2 → Dv K G2 v f → Q v H2) → r x y H Q) : E K (tOp r ta tb) ρ I f N :=
  fun G H σ gh en io Q q => ha G H σ gh en io _ fun x G1 H1 g1 gh1 j1 dx => hb G1 H1 σ gh1 (env_mono g1 en) j1 _ fun y G2 H2 g2 gh2 j2 dy =>
    hr G2 H2 x y gh2 j2 (dv_mono g2 dx) dy Q fun v G3 H3 g3 => q v G3 H3 ((g1.trans g2).trans g3)
theorem dv_int {G : Hp} {x : V} {i : Int} (h : Dv K G x (.i i)) : x = .int i := by
  cases h
  rfl
theorem dv_bl {G : Hp} {x : V} {i : Bool} (h : Dv K G x (.b i)) : x = .bl i := by
  cases h
  rfl
theorem dv_str {G : Hp} {x : V} {i : Str} (h : Dv K G x (.d (.str i))) : x = .str i := by
  cases h
  rfl
theorem e_I0 {f : Int → Int → Int} {i j : Int} (ha : E K ta ρ I (.i i) J) (hb : E K tb ρ J (.i j) L) : E K (tOp (rI0 fun i j => .int (f i j)) ta tb) ρ I (.i (f i j)) L :=
  e_op ha hb fun G H x y gh lo dx dy Q q => ⟨i, j, dv_int dx, dv_int dy, q _ G H (Same.refl _) gh lo (.int _)⟩
theorem e_I {C : Int → Int → Prop} {f : Int → Int → Int} {i j : Int} (ha : E K ta ρ I (.i i) J) (hb : E K tb ρ J (.i j) L) (hc : C i j) : E K (tOp (rI C fun i j => .int (f i j)) ta tb) ρ I (.i (f i j)) L :=
  e_op ha hb fun G H x y gh lo dx dy Q q => ⟨i, j, dv_int dx, dv_int dy, hc, q _ G H (Same.refl _) gh lo (.int _)⟩
theorem e_B0 {f : Int → Int → Bool} {i j : Int} (ha : E K ta ρ I (.i i) J) (hb : E K tb ρ J (.i j) L) : E K (tOp (rI0 fun i j => .bl (f i j)) ta tb) ρ I (.b (f i j)) L :=
  e_op ha hb fun G H x y gh lo dx dy Q q => ⟨i, j, dv_int dx, dv_int dy, q _ G H (Same.refl _) gh lo (.bl _)⟩
theorem e_add {i j : Int} (ha : E K ta ρ I (.i i) J) (hb : E K tb ρ J (.i j) L) : E K (tOp (rI0 fun i j => .int (i + j)) ta tb) ρ I (.i (i + j)) L := e_I0 (f := fun i j => i + j) ha hb
theorem e_sub {i j : Int} (ha : E K ta ρ I (.i i) J) (hb : E K tb ρ J (.i j) L) : E K (tOp (rI0 fun i j => .int (i - j)) ta tb) ρ I (.i (i - j)) L := e_I0 (f := fun i j => i - j) ha hb
theorem e_mul {i j : Int} (ha : E K ta ρ I (.i i) J) (hb : E K tb ρ J (.i j) L) (hc : CMulW i j) : E K (tOp (rI CMulW fun i j => .int (i * j)) ta tb) ρ I (.i (i * j)) L := e_I (f := fun i j => i * j) ha hb hc
theorem e_div {i j : Int} (ha : E K ta ρ I (.i i) J) (hb : E K tb ρ J (.i j) L) (hc : CDivW i j) : E K (tOp (rI CDivW fun i j => .int (i / j)) ta tb) ρ I (.i (i / j)) L := e_I (f := fun i j => i / j) ha hb hc
theorem e_mod {i j : Int} (ha : E K ta ρ I (.i i) J) (hb : E K tb ρ J (.i j) L) (hc : 0 < j) : E K (tOp (rI (fun _ j => 0 < j) fun i j => .int (i % j)) ta tb) ρ I (.i (i % j)) L := e_I (f := fun i j => i % j) ha hb hc
theorem e_pow {i j : Int} (ha : E K ta ρ I (.i i) J) (hb : E K tb ρ J (.i j) L) (hc : CPow i j) : E K (tOp (rI CPow fun i j => .int (i ^ j.toNat)) ta tb) ρ I (.i (i ^ j.toNat)) L := e_I (f := fun i j => i ^ j.toNat) ha hb hc
theorem e_lt {i j : Int} (ha : E K ta ρ I (.i i) J) (hb : E K tb ρ J (.i j) L) : E K (tOp (rI0 fun i j => .bl (decide (i < j))) ta tb) ρ I (.b (decide (i < j))) L := e_B0 (f := fun i j => decide (i < j)) ha hb
theorem e_le {i j : Int} (ha : E K ta ρ I (.i i) J) (hb : E K tb ρ J (.i j) L) : E K (tOp (rI0 fun i j => .bl (decide (i ≤ j))) ta tb) ρ I (.b (decide (i ≤ j))) L := e_B0 (f := fun i j => decide (i ≤ j)) ha hb
theorem e_gt {i j : Int} (ha : E K ta ρ I (.i i) J) (hb : E K tb ρ J (.i j) L) : E K (tOp (rI0 fun i j => .bl (decide (j < i))) ta tb) ρ I (.b (decide (j < i))) L := e_B0 (f := fun i j => decide (j < i)) ha hb
theorem e_ge {i j : Int} (ha : E K ta ρ I (.i i) J) (hb : E K tb ρ J (.i j) L) : E K (tOp (rI0 fun i j => .bl (decide (j ≤ i))) ta tb) ρ I (.b (decide (j ≤ i))) L := e_B0 (f := fun i j => decide (j ≤ i)) ha hb
theorem e_eqI {i j : Int} (ha : E K ta ρ I (.i i) J) (hb : E K tb ρ J (.i j) L) : E K (tOp rEq ta tb) ρ I (.b (decide (i = j))) L :=
  e_op ha hb fun G H x y gh lo dx dy Q q => by
    obtain rfl := dv_int dx
    obtain rfl := dv_int dy
    refine ⟨rfl, q _ G H (Same.refl _) gh lo ?_⟩
    have z : decide (V.int i = V.int j) = decide (i = j) := by
      by_cases h : i = j
      · subst h; simp
      · rw [decide_eq_false h, decide_eq_false (fun z => h (V.int.inj z))]
    rw [z]
    exact .bl _
theorem e_neI {i j : Int} (ha : E K ta ρ I (.i i) J) (hb : E K tb ρ J (.i j) L) : E K (tOp rNe ta tb) ρ I (.b (!decide (i = j))) L :=
  e_op ha hb fun G H x y gh lo dx dy Q q => by
    obtain rfl := dv_int dx
    obtain rfl := dv_int dy
    refine ⟨rfl, q _ G H (Same.refl _) gh lo ?_⟩
    have z : decide (V.int i = V.int j) = decide (i = j) := by
      by_cases h : i = j
      · subst h; simp
      · rw [decide_eq_false h, decide_eq_false (fun z => h (V.int.inj z))]
    rw [z]
    exact .bl _
theorem e_eqD {x y : PyData} (ha : E K ta ρ I (.d x) J) (hb : E K tb ρ J (.d y) L) (hx : SeqAt.shaped x = true) (hy : SeqAt.shaped y = true) : E K (tOp (rEqD K) ta tb) ρ I (.b (PyData.eqv x y)) L :=
  e_op ha hb fun G H a b gh lo dx dy Q q => ⟨x, y, dp_mono gh _ _ dx, dp_mono gh _ _ dy, hx, hy, q _ G H (Same.refl _) gh lo (.bl _)⟩
theorem e_neD {x y : PyData} (ha : E K ta ρ I (.d x) J) (hb : E K tb ρ J (.d y) L) (hx : SeqAt.shaped x = true) (hy : SeqAt.shaped y = true) : E K (tOp (rNeD K) ta tb) ρ I (.b (!PyData.eqv x y)) L :=
  e_op ha hb fun G H a b gh lo dx dy Q q => ⟨x, y, dp_mono gh _ _ dx, dp_mono gh _ _ dy, hx, hy, q _ G H (Same.refl _) gh lo (.bl _)⟩
theorem e_neg {i : Int} (ha : E K ta ρ I (.i i) J) : E K (tUn (rU fun i => .int (-i)) ta) ρ I (.i (-i)) J :=
  fun G H σ gh en io Q q => ha G H σ gh en io _ fun x G1 H1 g1 gh1 j1 dx => ⟨i, dv_int dx, q _ G1 H1 g1 gh1 j1 (.int _)⟩
/-- an item of a tuple -/
theorem e_ixT {ds : List PyData} {j : Nat} {x : PyData} (ha : E K ta ρ I (.t ds) J) (hb : E K tb ρ J (.i (j : Nat)) L) (h : ds[j]? = some x) : E K (tOp (rIxT K) ta tb) ρ I (.d x) L :=
  e_op ha hb fun G H a b gh lo dx dy Q q => by
    cases dx with
    | tup s r =>
      obtain rfl := dv_int dy
      obtain ⟨v, h1, h2⟩ := dpa_get r h
      exact ⟨_, _, _, v, rfl, rfl, same_t gh s, atI_nat h1, q v G H (Same.refl _) gh lo h2⟩
/-- an item of a list that never changes -/
theorem e_ixL {ds : List PyData} {j : Nat} {x : PyData} (ha : E K ta ρ I (.d (.list ds)) J) (hb : E K tb ρ J (.i (j : Nat)) L) (h : ds[j]? = some x) : E K (tOp (rIxL K) ta tb) ρ I (.d x) L :=
  e_op ha hb fun G H a b gh lo dx dy Q q => by
    cases dx with
    | lst s r =>
      obtain rfl := dv_int dy
      obtain ⟨v, h1, h2⟩ := dpa_get r h
      exact ⟨_, _, _, v, rfl, rfl, gh.seq s, atI_nat h1, q v G H (Same.refl _) gh lo h2⟩
/-! ### arguments, displays, calls of built-ins -/
theorem a_nil : A K tNil ρ I [] I := fun G H σ gh en io Q q => q [] G H (Same.refl _) gh io trivial
theorem a_cons {tr : TA} {ds : List Dat} (ha : E K ta ρ I d J) (hr : A K tr ρ J ds L) : A K (tCons ta tr) ρ I (d :: ds) L :=
  fun G H σ gh en io Q q => ha G H σ gh en io _ fun x G1 H1 g1 gh1 j1 dx => hr G1 H1 σ gh1 (env_mono g1 en) j1 _ fun xs G2 H2 g2 gh2 j2 dxs => q (x :: xs) G2 H2 (g1.trans g2) gh2 j2 ⟨dv_mono g2 dx, dxs⟩
theorem sz_of {n : Nat} (h : n ≤ 100000) : n ≤ sizeLine := Nat.le_trans h (by decide)
theorem e_tupA {tr : TA} {ds : List PyData} (hr : A K tr ρ I (ds.map Dat.d) J) (hl : ds.length ≤ 100000) : E K (tTup tr) ρ I (.t ds) J :=
  fun G H σ gh en io Q q => hr G H σ gh en io _ fun xs G1 H1 g1 gh1 j1 dxs => by
    have r := dva_dp dxs
    refine ⟨by rw [dpa_len r]; exact sz_of hl, fun p hp => ?_⟩
    have s := Stp.new (o := .tup xs) gh1 hp
    exact q _ _ _ (g1.trans s.gg) s.gh (Asn.pure_st s j1) (.tup (.inl (.inl upd_same)) (dp_monos s.gg ds xs r))
inductive Ds : List Dat → List PyData → Prop
  | nil : Ds [] []
  | cons {x : PyData} {ds : List Dat} {xs : List PyData} : Ds ds xs → Ds (.d x :: ds) (x :: xs)
theorem Ds.map {ds : List Dat} {xs : List PyData} (h : Ds ds xs) : ds = xs.map Dat.d := by
  induction h with
  | nil => rfl
  | cons _ ih => rw [ih, List.map_cons]
theorem e_tup {tr : TA} {ds : List Dat} {xs : List PyData} (hr : A K tr ρ I ds J) (hd : Ds ds xs) (hl : xs.length ≤ 100000) : E K (tTup tr) ρ I (.t xs) J := e_tupA (by rw [← hd.map]; exact hr) hl
theorem e_cb {r : List V → Hp → VK → Prop} {tr : TA} {ds : List Dat} (hr : A K tr ρ I ds J) (h : ∀ G H vs, Same G H → J.ok G H → DvAll K G vs ds → ∀ Q : VK, (∀ v G2 H2, Same G G2 → Same G2 H2 → L.ok G2 H2 → Dv K G2 v d → Q v H2) → r vs H Q) : E K (tCB r tr) ρ I d L :=
  fun G H σ gh en io Q q => hr G H σ gh en io _ fun xs G1 H1 g1 gh1 j1 dxs => h G1 H1 xs gh1 j1 dxs Q fun v G2 H2 g2 => q v G2 H2 (g1.trans g2)
theorem dva1 {G : Hp} {vs : List V} {d : Dat} (h : DvAll K G vs [d]) : ∃ v, vs = [v] ∧ Dv K G v d := by
  match vs, h with
  | [v], h => exact ⟨v, rfl, h.1⟩
theorem dva2 {G : Hp} {vs : List V} {d e : Dat} (h : DvAll K G vs [d, e]) : ∃ v w, vs = [v, w] ∧ Dv K G v d ∧ Dv K G w e := by
  match vs, h with
  | [v, w], h => exact ⟨v, w, rfl, h.1, h.2.1⟩
theorem e_gcd {i j : Int} {tr : TA} (hr : A K tr ρ I [.i i, .i j] J) : E K (tCB rGcd tr) ρ I (.i ((Nat.gcd i.natAbs j.natAbs : Nat) : Int)) J :=
  e_cb hr fun G H vs gh jo h Q q => by
    obtain ⟨v, w, rfl, h1, h2⟩ := dva2 h
    obtain rfl := dv_int h1
    obtain rfl := dv_int h2
    exact ⟨i, j, rfl, q _ G H (Same.refl _) gh jo (.int _)⟩
theorem e_len {ds : List PyData} {tr : TA} (hr : A K tr ρ I [.d (.list ds)] J) : E K (tCB (fun xs H Q => ∃ p ys, xs = [.ref p] ∧ (SqL K H p ys ∨ SqT K H p ys) ∧ Q (.int ys.length) H) tr) ρ I (.i (ds.length : Nat)) J :=
  e_cb hr fun G H vs gh jo h Q q => by
    obtain ⟨v, rfl, h1⟩ := dva1 h
    cases h1 with
    | lst s r => exact ⟨_, _, rfl, .inl (gh.seq s), by rw [dpa_len r]; exact q _ G H (Same.refl _) gh jo (.int _)⟩
theorem e_lenT {ds : List PyData} {tr : TA} (hr : A K tr ρ I [.t ds] J) : E K (tCB (fun xs H Q => ∃ p ys, xs = [.ref p] ∧ (SqL K H p ys ∨ SqT K H p ys) ∧ Q (.int ys.length) H) tr) ρ I (.i (ds.length : Nat)) J :=
  e_cb hr fun G H vs gh jo h Q q => by
    obtain ⟨v, rfl, h1⟩ := dva1 h
    cases h1 with
    | tup s r => exact ⟨_, _, rfl, .inr (same_t gh s), by rw [dpa_len r]; exact q _ G H (Same.refl _) gh jo (.int _)⟩
/-! ### tests -/
theorem t_test (h : E K te ρ I (.b b) J) : T K (tTest te) ρ I b J := fun G H σ gh en io Q q => h G H σ gh en io _ fun x G1 H1 g1 gh1 j1 dx => ⟨b, dv_bl dx, q G1 H1 g1 gh1 j1⟩
theorem t_B (h : E K te ρ I (.b b) J) : T K (tB te) ρ I b J := fun G H σ gh en io Q q => h G H σ gh en io _ fun x G1 H1 g1 gh1 j1 dx => ⟨b, dv_bl dx, q G1 H1 g1 gh1 j1⟩
theorem t_not (h : T K t ρ I b J) : T K (tNot t) ρ I (!b) J := fun G H σ gh en io Q q => h G H σ gh en io _ fun G1 H1 g1 gh1 j1 => q G1 H1 g1 gh1 j1
theorem t_or (h : T K t ρ I b J) (h2 : b = false → T K u ρ J c J) : T K (tOr t u) ρ I (b || c) J := fun G H σ gh en io Q q => h G H σ gh en io _ fun G1 H1 g1 gh1 j1 => by
  cases b with
  | false =>
    show u σ H1 Q
    exact h2 rfl G1 H1 σ gh1 (env_mono g1 en) j1 Q fun G2 H2 g2 => q G2 H2 (g1.trans g2)
  | true =>
    show Q true H1
    exact q G1 H1 g1 gh1 j1
/-- and, or whose outcome is told by the first -/
theorem t_andF (h : T K t ρ I false J) : T K (tAnd t u) ρ I false J := fun G H σ gh en io Q q => h G H σ gh en io _ fun G1 H1 g1 gh1 j1 => q G1 H1 g1 gh1 j1
theorem t_andT (h : T K t ρ I true J) (h2 : T K u ρ J c L) : T K (tAnd t u) ρ I c L := fun G H σ gh en io Q q => h G H σ gh en io _ fun G1 H1 g1 gh1 j1 => h2 G1 H1 σ gh1 (env_mono g1 en) j1 Q fun G2 H2 g2 => q G2 H2 (g1.trans g2)
theorem t_orT (h : T K t ρ I true J) : T K (tOr t u) ρ I true J := fun G H σ gh en io Q q => h G H σ gh en io _ fun G1 H1 g1 gh1 j1 => q G1 H1 g1 gh1 j1
theorem t_orF (h : T K t ρ I false J) (h2 : T K u ρ J c L) : T K (tOr t u) ρ I c L := fun G H σ gh en io Q q => h G H σ gh en io _ fun G1 H1 g1 gh1 j1 => h2 G1 H1 σ gh1 (env_mono g1 en) j1 Q fun G2 H2 g2 => q G2 H2 (g1.trans g2)
theorem t_is {b c : Bool} (h : T K t ρ I b J) (e : b = c) : T K t ρ I c J := e ▸ h
theorem e_is {d e : Dat} (h : E K te ρ I d J) (z : d = e) : E K te ρ I e J := z ▸ h
theorem e_ifT (h : T K t ρ I true J) (h2 : E K ta ρ J d L) : E K (tIf t ta tb) ρ I d L := fun G H σ gh en io Q q => h G H σ gh en io _ fun G1 H1 g1 gh1 j1 => h2 G1 H1 σ gh1 (env_mono g1 en) j1 Q fun v G2 H2 g2 => q v G2 H2 (g1.trans g2)
theorem e_ifF (h : T K t ρ I false J) (h2 : E K tb ρ J d L) : E K (tIf t ta tb) ρ I d L := fun G H σ gh en io Q q => h G H σ gh en io _ fun G1 H1 g1 gh1 j1 => h2 G1 H1 σ gh1 (env_mono g1 en) j1 Q fun v G2 H2 g2 => q v G2 H2 (g1.trans g2)
theorem e_andV (h : E K ta ρ I (.b b) J) (h2 : b = true → E K tb ρ J (.b c) J) : E K (tAndV ta tb) ρ I (.b (b && c)) J := fun G H σ gh en io Q q => h G H σ gh en io _ fun x G1 H1 g1 gh1 j1 dx => ⟨b, dv_bl dx, by
  cases b with
  | true =>
    show tb σ H1 Q
    exact h2 rfl G1 H1 σ gh1 (env_mono g1 en) j1 Q fun v G2 H2 g2 => q v G2 H2 (g1.trans g2)
  | false =>
    show Q (.bl false) H1
    exact q _ G1 H1 g1 gh1 j1 (.bl _)⟩
theorem e_orV (h : E K ta ρ I (.b b) J) (h2 : b = false → E K tb ρ J (.b c) J) : E K (tOrV ta tb) ρ I (.b (b || c)) J := fun G H σ gh en io Q q => h G H σ gh en io _ fun x G1 H1 g1 gh1 j1 dx => ⟨b, dv_bl dx, by
  cases b with
  | false =>
    show tb σ H1 Q
    exact h2 rfl G1 H1 σ gh1 (env_mono g1 en) j1 Q fun v G2 H2 g2 => q v G2 H2 (g1.trans g2)
  | true =>
    show Q (.bl true) H1
    exact q _ G1 H1 g1 gh1 j1 (.bl _)⟩
/-! ### statements -/
variable {ts us : TS} {k : Out}
theorem s_next : S K tNext ρ I (.nx ρ I) := fun G H σ D gh en io f => f G H σ (Same.refl _) gh en io
theorem s_asg {i : Nat} (h : E K te ρ I d J) : S K (tAsg te (gName i)) ρ I (.nx (ρ.set i (some d)) J) := fun G H σ D gh en io f => h G H σ gh en io _ fun v G1 H1 g1 gh1 j1 dv => f G1 H1 _ g1 gh1 (env_set dv (env_mono g1 en)) j1
theorem s_ret (h : E K te ρ I d J) : S K (tRet te) ρ I (.rt d J) := fun G H σ D gh en io f => h G H σ gh en io _ fun v G1 H1 g1 gh1 j1 dv => f v G1 H1 g1 gh1 j1 dv
theorem s_drop (h : E K te ρ I d J) : S K (tDrop te) ρ I (.nx ρ J) := fun G H σ D gh en io f => h G H σ gh en io _ fun v G1 H1 g1 gh1 j1 dv => f G1 H1 σ g1 gh1 (env_mono g1 en) j1
theorem s_seq (h : S K ts ρ I (.nx ρ1 J)) (h2 : S K us ρ1 J k) : S K (tSeq ts us) ρ I k := fun G H σ D gh en io f => h G H σ _ gh en io fun G1 H1 σ1 g1 gh1 en1 j1 => h2 G1 H1 σ1 D gh1 en1 j1 (f.mono g1)
theorem s_stop {d : Dat} (h : S K ts ρ I (.rt d J)) : S K (tSeq ts us) ρ I (.rt d J) := fun G H σ D gh en io f => h G H σ _ gh en io f
theorem s_ifT (h : T K t ρ I true J) (h2 : S K ts ρ J k) : S K (tIfS t ts us) ρ I k := fun G H σ D gh en io f => h G H σ gh en io _ fun G1 H1 g1 gh1 j1 => h2 G1 H1 σ D gh1 (env_mono g1 en) j1 (f.mono g1)
theorem s_ifF (h : T K t ρ I false J) (h2 : S K us ρ J k) : S K (tIfS t ts us) ρ I k := fun G H σ D gh en io f => h G H σ gh en io _ fun G1 H1 g1 gh1 j1 => h2 G1 H1 σ D gh1 (env_mono g1 en) j1 (f.mono g1)
theorem s_par {i j : Nat} {tr : TA} (h : A K tr ρ I [d, e] J) : S K (tPar i j tr) ρ I (.nx ((ρ.set i (some d)).set j (some e)) J) := fun G H σ D gh en io f => h G H σ gh en io _ fun vs G1 H1 g1 gh1 j1 dv => by
  obtain ⟨v, w, rfl, h1, h2⟩ := dva2 dv
  exact ⟨v, w, rfl, f G1 H1 _ g1 gh1 (env_set h2 (env_set h1 (env_mono g1 en))) j1⟩
theorem s_is {k k' : Out} (h : S K ts ρ I k) (e : k = k') : S K ts ρ I k' := e ▸ h
theorem s_lessN {ρ' ρ'' : Rho} (l : Less ρ' ρ'') (h : S K ts ρ I (.nx ρ' J)) : S K ts ρ I (.nx ρ'' J) := fun G H σ D gh en io f => h G H σ D gh en io fun G2 H2 σ2 g2 gh2 en2 => f G2 H2 σ2 g2 gh2 (env_less l en2)
/-! ### while -/
theorem s_while {α : Type} {tc : TT} (Iv : α → Prop) (P : α → Rho) (V : α → Asn) (μ : α → Nat) (s0 : α) (h0 : Iv s0)
    (turn : ∀ s, Iv s → (T K tc (P s) (V s) true (V s) ∧ ((∃ s', Iv s' ∧ μ s' < μ s ∧ S K ts (P s) (V s) (.nx (P s') (V s'))) ∨ (∃ d J, k = .rt d J ∧ S K ts (P s) (V s) k))) ∨ (T K tc (P s) (V s) false (V s) ∧ k = .nx (P s) (V s))) :
    S K (tWhile tc ts) (P s0) (V s0) k := fun G H σ D gh en io f => by
  refine ⟨fun m σ' H' => ∃ s G', m = μ s ∧ Iv s ∧ Same G G' ∧ Same G' H' ∧ EnvD K G' σ' (P s) ∧ (V s).ok G' H', ⟨μ s0, s0, G, rfl, h0, Same.refl _, gh, en, io⟩, fun m σ' H' hw => ?_⟩
  obtain ⟨s, G', rfl, iv, g', gh', en', io'⟩ := hw
  rcases turn s iv with ⟨ht, hb⟩ | ⟨ht, hk⟩
  · refine ht G' H' σ' gh' en' io' _ fun G1 H1 g1 gh1 j1 => ?_
    rcases hb with ⟨s', iv', lt, hs⟩ | ⟨d, J, rfl, hs⟩
    · refine ⟨fun σ2 H2 => ∃ G2, Same G G2 ∧ Same G2 H2 ∧ EnvD K G2 σ2 (P s') ∧ (V s').ok G2 H2, fun σ2 H2 ⟨G2, a, b, c, d⟩ => ⟨μ s', lt, s', G2, rfl, iv', a, b, c, d⟩, ?_⟩
      exact hs G1 H1 σ' _ gh1 (env_mono g1 en') j1 fun G2 H2 σ2 g2 gh2 en2 j2 => ⟨G2, (g'.trans g1).trans g2, gh2, en2, j2⟩
    · refine ⟨fun _ _ => False, fun _ _ z => z.elim, ?_⟩
      exact hs G1 H1 σ' _ gh1 (env_mono g1 en') j1 ((f.mono g').mono g1 : Fin K D G1 (.rt d J))
  · subst hk
    exact ht G' H' σ' gh' en' io' _ fun G1 H1 g1 gh1 j1 => f G1 H1 σ' (g'.trans g1) gh1 (env_mono g1 en') j1
/-! ### for over a list that never changes, a tuple, a range -/
theorem s_forL {tl : TE} {ds : List PyData} {j : Nat} (P : Nat → Rho) (V : Nat → Asn) (hl : E K tl ρ I (.d (.list ds)) (V 0)) (h0 : ρ = P 0)
    (turn : ∀ i x, ds[i]? = some x → S K ts ((P i).set j (some (.d x))) (V i) (.nx (P (i + 1)) (V (i + 1)))) : S K (tFor (iList K tl) (gName j) ts) ρ I (.nx (P ds.length) (V ds.length)) := fun G H σ D gh en io f => by
  refine hl G H σ gh en io _ fun v G1 H1 g1 gh1 j1 dv => ?_
  cases dv with
  | lst s r =>
    rename_i a xs
    subst h0
    refine ⟨a, rfl, ⟨_, gh1.seq s⟩, for_list (xs := xs) (fun i σ' H' => ∃ G', Same G1 G' ∧ Same G' H' ∧ EnvD K G' σ' (P i) ∧ (V i).ok G' H') ⟨G1, Same.refl _, gh1, env_mono g1 en, j1⟩ (fun i σ' H' _ ⟨G', a1, a2, _⟩ => (a1.trans a2).seq s) (fun i x σ' H' hx ⟨G', a1, a2, a3, a4⟩ => ?_) (fun σ' H' ⟨G', a1, a2, a3, a4⟩ => ?_)⟩
    · have hi : i < xs.length := (List.getElem?_eq_some_iff.mp hx).1
      have hi2 : i < ds.length := by rw [← dpa_len r]; exact hi
      obtain ⟨w, h1, h2⟩ := dpa_get r (List.getElem?_eq_getElem hi2)
      rw [hx] at h1
      obtain rfl := Option.some.inj h1
      exact turn i _ (List.getElem?_eq_getElem hi2) G' H' _ _ a2 (env_set (d := .d _) (dp_mono a1 _ _ h2) a3) a4 fun G2 H2 σ2 g2 gh2 en2 j2 => ⟨G2, a1.trans g2, gh2, en2, j2⟩
    · rw [dpa_len r] at a3 a4
      exact f G' H' σ' (g1.trans a1) a2 a3 a4
/-! ### defs that change nothing -/
/-- the tables at T are known wherever J holds -/
class HasT (T : Tbs) (J : Asn) : Prop where
  get : ∀ G H, J.ok G H → TabsIn T G H
abbrev noT : Tbs := ⟨[], []⟩
instance : HasT noT J := ⟨fun _ _ _ => ⟨fun p hp => (by cases hp), fun p hp => (by cases hp)⟩⟩
instance {T : Tbs} [h : HasT T J] : HasT T (I.and J) := ⟨fun G H z => h.get G H z.2⟩
def Asn.tab (T : Tbs) : Asn := ⟨NoA, fun G H => TabsIn T G H, fun _ _ _ _ _ _ s h => h.go s, fun _ _ _ _ z => z.elim⟩
instance {T : Tbs} : HasT T (Asn.tab T) := ⟨fun _ _ z => z⟩
/-- R ds d: of the arguments ds it hands back d; the tables at T may grow -/
def spT (K : PySem.W.Frag) (T : Tbs) (R : List Dat → Dat → Prop) : Sp := fun vs H Q _ => ∃ G ds d, Same G H ∧ DvAll K G vs ds ∧ R ds d ∧ TabsIn T G H ∧ ∀ v G2 H2, Stp NoA G H G2 H2 → Dv K G2 v d → Q v H2
abbrev spP (K : PySem.W.Frag) (R : List Dat → Dat → Prop) : Sp := spT K noT R
theorem e_call {T : Tbs} {R : List Dat → Dat → Prop} {X : XK} {tr : TA} {ds : List Dat} [hT : HasT T J] (hr : A K tr ρ I ds J) (h : R ds d) : E K (tCall (spT K T R) [] X tr) ρ I d J := fun G H σ gh en io Q q => hr G H σ gh en io _ fun vs G1 H1 g1 gh1 j1 dvs => by
  rw [List.append_nil]
  exact ⟨G1, ds, d, gh1, dvs, h, hT.get _ _ j1, fun v G2 H2 s dv => q v G2 H2 (g1.trans s.gg) s.gh (Asn.pure_st s j1) dv⟩
theorem body_T {T : Tbs} {R : List Dat → Dat → Prop} {N : List Str} {vs : List V} {H : Hp} {Q : VK} {X : XK} (hb : ∀ ds d, R ds d → ∀ I, HasT T I → S K ts (ds.map some ++ List.replicate (N.length - ds.length) none) I (.rt d I)) (h : spT K T R vs H Q X) :
    ts { nx := fun _ H' => Q .non H', rt := Q } (L2.start N vs) H := by
  obtain ⟨G, ds, d, gh, dvs, r, tb, q⟩ := h
  refine hb ds d r ((Asn.since NoA G H).and (Asn.tab T)) inferInstance G H _ _ gh ?_ ⟨Stp.refl gh, tb⟩ fun v G2 H2 g2 gh2 j2 dv => q v G2 H2 j2.1 dv
  unfold L2.start
  rw [dva_len dvs]
  exact env_start _ dvs
theorem body_P {R : List Dat → Dat → Prop} {N : List Str} {vs : List V} {H : Hp} {Q : VK} {X : XK} (hb : ∀ ds d, R ds d → ∀ I, S K ts (ds.map some ++ List.replicate (N.length - ds.length) none) I (.rt d I)) (h : spP K R vs H Q X) :
    ts { nx := fun _ H' => Q .non H', rt := Q } (L2.start N vs) H := body_T (fun ds d r I _ => hb ds d r I) h
theorem len_P {T : Tbs} {R : List Dat → Dat → Prop} {n : Nat} (hl : ∀ ds d, R ds d → ds.length = n) {vs : List V} {H : Hp} {Q : VK} {X : XK} (h : spT K T R vs H Q X) : vs.length = n := by
  obtain ⟨G, ds, d, gh, dvs, r, _, q⟩ := h
  rw [dva_len dvs, hl ds d r]
end
end PL
namespace PL
open PySem PySem.Spec PyProof.Rows L2
variable [Nm]
/-! ### the drawing list -/
structure DS where
  a : Addr
  ns : List Int
  pos : Nat
  rest : Int
  seed : Int
def dO (S : DS) : HO := .lst [.ref S.a, .int (S.pos : Nat), .int S.rest, .int S.seed]
section
variable {K : PySem.W.Frag} {ρ ρ1 : Rho} {I J L N : Asn} {ta tb tc te : TE} {d e : Dat} {t u : TT} {b c : Bool} {p : Addr} {C C' : DS}
def dA (K : PySem.W.Frag) (p : Addr) (C : DS) : Asn := ⟨(· = p), fun G H => G p = none ∧ H p = some (dO C) ∧ SqL K G C.a (C.ns.map V.int), fun M G H G2 H2 n s h =>
  ⟨s.fr p _ (n p rfl) h.2.1 h.1, s.hh p _ (n p rfl) h.2.1, s.gg.seq h.2.2⟩, fun G H a h (z : a = p) => ⟨dO C, by rw [z]; exact h.2.1⟩⟩
abbrev dJ (K : PySem.W.Frag) (p : Addr) (C : DS) (J : Asn) : Asn := (dA K p C).and J
def dS (C : DS) : List Dat := [.d (.list (C.ns.map PyData.int)), .i (C.pos : Nat), .i C.rest, .i C.seed]
theorem e_dix {j : Nat} {x : Dat} (ha : E K ta ρ I (.r p) (dJ K p C J)) (hb : E K tb ρ (dJ K p C J) (.i (j : Nat)) (dJ K p C J)) (h : (dS C)[j]? = some x) : E K (tOp (rIxL K) ta tb) ρ I x (dJ K p C J) :=
  e_op ha hb fun G H v w gh lo dx dy Q q => by
    obtain rfl : v = .ref p := dx
    obtain rfl := dv_int dy
    obtain ⟨⟨l1, l2, l3⟩, l4⟩ := lo
    have done : ∀ y, atI [V.ref C.a, V.int (C.pos : Nat), V.int C.rest, V.int C.seed] (j : Int) = some y → Dv K G y x → rIxL K (.ref p) (.int (j : Int)) H Q := fun y hy dvy =>
      ⟨p, _, _, y, rfl, rfl, .inl (.inl l2), hy, q y G H (Same.refl _) gh ⟨⟨l1, l2, l3⟩, l4⟩ dvy⟩
    match j, h with
    | 0, h =>
      obtain rfl := Option.some.inj h
      exact done (.ref C.a) (atI_nat (j := 0) rfl) (.lst l3 (dpa_ints _))
    | 1, h =>
      obtain rfl := Option.some.inj h
      exact done _ (atI_nat (j := 1) rfl) (.int _)
    | 2, h =>
      obtain rfl := Option.some.inj h
      exact done _ (atI_nat (j := 2) rfl) (.int _)
    | 3, h =>
      obtain rfl := Option.some.inj h
      exact done _ (atI_nat (j := 3) rfl) (.int _)
    | n + 4, h => simp [dS] at h
/-- a store into it -/
theorem s_dset {x : Int} {j : Nat} (he : E K te ρ I (.i x) (dJ K p C J)) (ha : E K ta ρ (dJ K p C J) (.r p) (dJ K p C J)) (hb : E K tb ρ (dJ K p C J) (.i (j : Nat)) (dJ K p C J)) (hj : j < 4)
    (h : HO.lst ([V.ref C.a, V.int (C.pos : Nat), V.int C.rest, V.int C.seed].set j (.int x)) = dO C') (h2 : C'.a = C.a ∧ C'.ns = C.ns) (hf : ¬ J.foot p) :
    S K (tAsg te (gSub ta tb rSetL)) ρ I (.nx ρ (dJ K p C' J)) := fun G H σ D gh en io f => he G H σ gh en io _ fun v G1 H1 g1 gh1 j1 dv =>
  ha G1 H1 σ gh1 (env_mono g1 en) j1 _ fun o G2 H2 g2 gh2 j2 do_ => hb G2 H2 σ gh2 (env_mono (g1.trans g2) en) j2 _ fun i G3 H3 g3 gh3 j3 di => by
    obtain rfl := dv_int dv
    obtain rfl : o = .ref p := do_
    obtain rfl := dv_int di
    obtain ⟨⟨l1, l2, l3⟩, l4⟩ := j3
    have s := Stp.store (o := dO C') gh3 l1 l2
    refine ⟨p, _, (j : Int), j, rfl, rfl, l2, ?_, ?_⟩
    · unfold ixN
      rw [if_pos (by omega), if_pos (by show (j : Int) < (4 : Nat); omega)]
      simp
    · rw [h]
      refine f _ _ σ ((g1.trans g2).trans g3) s.gh (env_mono ((g1.trans g2).trans g3) en) ⟨⟨l1, upd_same, ?_⟩, J.st _ _ _ _ _ (fun a fa (z : a = p) => hf (z ▸ fa)) s l4⟩
      rw [h2.1, h2.2]
      exact l3
theorem e_int1 {i : Int} {tr : TA} (hr : A K tr ρ I [.i i] J) : E K (tCB (fun xs H Q => (∃ i, xs = [.int i] ∧ Q (.int i) H) ∨ ∃ k, xs = [.bl k] ∧ Q (.int (if k then 1 else 0)) H) tr) ρ I (.i i) J :=
  e_cb hr fun G H vs gh jo h Q q => by
    obtain ⟨v, rfl, h1⟩ := dva1 h
    obtain rfl := dv_int h1
    exact .inl ⟨i, rfl, q _ G H (Same.refl _) gh jo (.int _)⟩
theorem e_abs {i : Int} {tr : TA} (hr : A K tr ρ I [.i i] J) : E K (tCB (fun xs H Q => ∃ i, xs = [.int i] ∧ Q (.int (if i < 0 then -i else i)) H) tr) ρ I (.i (i.natAbs : Nat)) J :=
  e_cb hr fun G H vs gh jo h Q q => by
    obtain ⟨v, rfl, h1⟩ := dva1 h
    obtain rfl := dv_int h1
    refine ⟨i, rfl, ?_⟩
    have z : (if i < 0 then -i else i) = (i.natAbs : Int) := by
      split <;> omega
    rw [z]
    exact q _ G H (Same.refl _) gh jo (.int _)
/-- defs that draw: R ds C d C': of the arguments p, ds and the list as C they hand back d and leave it as C' -/
def spW (K : PySem.W.Frag) (R : List Dat → DS → Dat → DS → Prop) : Sp := fun vs H Q _ => ∃ G ds d p C C', Same G H ∧ DvAll K G vs (.r p :: ds) ∧ (dA K p C).ok G H ∧ R ds C d C' ∧ ∀ v G2 H2, Stp (· = p) G H G2 H2 → (dA K p C').ok G2 H2 → Dv K G2 v d → Q v H2
theorem e_draw {R : List Dat → DS → Dat → DS → Prop} {X : XK} {tr : TA} {ds : List Dat} (hr : A K tr ρ I (.r p :: ds) (dJ K p C J)) (h : R ds C d C') (hf : ¬ J.foot p) : E K (tCall (spW K R) [] X tr) ρ I d (dJ K p C' J) := fun G H σ gh en io Q q => hr G H σ gh en io _ fun vs G1 H1 g1 gh1 j1 dvs => by
  rw [List.append_nil]
  exact ⟨G1, ds, d, p, C, C', gh1, dvs, j1.1, h, fun v G2 H2 s k dv => q v G2 H2 (g1.trans s.gg) s.gh ⟨k, J.st _ _ _ _ _ (fun a fa (z : a = p) => hf (z ▸ fa)) s j1.2⟩ dv⟩
theorem body_W {ts : TS} {R : List Dat → DS → Dat → DS → Prop} {N : List Str} {vs : List V} {H : Hp} {Q : VK} {X : XK} (hb : ∀ ds C d C', R ds C d C' → ∀ p J, ¬ J.foot p → S K ts (some (.r p) :: (ds.map some ++ List.replicate (N.length - (ds.length + 1)) none)) (dJ K p C J) (.rt d (dJ K p C' J))) (h : spW K R vs H Q X) :
    ts { nx := fun _ H' => Q .non H', rt := Q } (L2.start N vs) H := by
  obtain ⟨G, ds, d, p, C, C', gh, dvs, k, r, q⟩ := h
  refine hb ds C d C' r p (Asn.since (· = p) G H) (fun z => z.1 rfl) G H _ _ gh ?_ ⟨k, Stp.refl gh⟩ fun v G2 H2 g2 gh2 j2 dv => q v G2 H2 j2.2 j2.1 dv
  unfold L2.start
  rw [dva_len dvs, List.length_cons]
  exact env_start (ds := .r p :: ds) _ dvs
theorem len_W {R : List Dat → DS → Dat → DS → Prop} {n : Nat} (hl : ∀ ds C d C', R ds C d C' → ds.length + 1 = n) {vs : List V} {H : Hp} {Q : VK} {X : XK} (h : spW K R vs H Q X) : vs.length = n := by
  obtain ⟨G, ds, d, p, C, C', gh, dvs, k, r, q⟩ := h
  rw [dva_len dvs, List.length_cons, hl ds C d C' r]
/-! ### the draws themselves -/
def take1 (C : DS) (m : Int) : Int × DS :=
  if 0 < C.rest then (C.rest % m, { C with rest := C.rest / m })
  else (((C.seed * 48271 + 11) % 2147483647 / 3) % m, { C with seed := (C.seed * 48271 + 11) % 2147483647 })
def take (C : DS) (m : Int) : Int × DS :=
  if C.rest = 0 ∧ C.pos < C.ns.length then
    if ((C.ns.getD C.pos 0).natAbs : Int) < 10 ^ 18 then (((C.ns.getD C.pos 0).natAbs : Int) % m, { C with pos := C.pos + 1, rest := 0 })
    else take1 { C with pos := C.pos + 1, rest := ((C.ns.getD C.pos 0).natAbs : Int) } m
  else take1 C m
structure DOk (C : DS) : Prop where
  r : 0 ≤ C.rest
  s : 0 ≤ C.seed ∧ C.seed < 2147483647
theorem take1_ok {C : DS} {m : Int} (h : DOk C) (hm : 0 < m) : DOk (take1 C m).2 ∧ 0 ≤ (take1 C m).1 ∧ (take1 C m).1 < m := by
  unfold take1
  split
  · exact ⟨⟨Int.ediv_nonneg h.r (Int.le_of_lt hm), h.s⟩, Int.emod_nonneg _ (by omega), Int.emod_lt_of_pos _ hm⟩
  · exact ⟨⟨h.r, Int.emod_nonneg _ (by decide), Int.emod_lt_of_pos _ (by decide)⟩, Int.emod_nonneg _ (by omega), Int.emod_lt_of_pos _ hm⟩
theorem take_ok {C : DS} {m : Int} (h : DOk C) (hm : 0 < m) : DOk (take C m).2 ∧ 0 ≤ (take C m).1 ∧ (take C m).1 < m := by
  unfold take
  split
  · split
    · exact ⟨⟨Int.le_refl _, h.s⟩, Int.emod_nonneg _ (by omega), Int.emod_lt_of_pos _ hm⟩
    · exact take1_ok ⟨by show (0 : Int) ≤ ((C.ns.getD C.pos 0).natAbs : Int); omega, h.s⟩ hm
  · exact take1_ok h hm
end
end PL
/-! Fractions as pairs of integers: the program's own sums and products are the lowest terms. Plain Lean. -/
namespace FR
abbrev F := Int × Int
def Nrm (a : F) : Prop := 0 < a.2 ∧ Int.gcd a.1 a.2 = 1
/-- the lowest terms of n over d, d above 0 -/
def nf (n d : Int) : F := (n / (Int.gcd n d : Int), d / (Int.gcd n d : Int))
def lf (n d : Int) : F := if d < 0 then nf (0 - n) (0 - d) else nf n d
theorem nf_nrm {n d : Int} (h : 0 < d) : Nrm (nf n d) := by
  have g0 : 0 < Int.gcd n d := Int.gcd_pos_of_ne_zero_right n (by omega)
  refine ⟨?_, Int.gcd_ediv_gcd_ediv_gcd g0⟩
  have dv : (Int.gcd n d : Int) ∣ d := Int.gcd_dvd_right n d
  exact Int.ediv_pos_of_pos_of_dvd h (by omega) dv
theorem lf_nrm {n d : Int} (h : d ≠ 0) : Nrm (lf n d) := by
  unfold lf
  split
  · exact nf_nrm (by omega)
  · exact nf_nrm (by omega)
theorem nf_mul1 {n d : Int} (h : 0 < d) : (nf n d).1 * d = n * (nf n d).2 := by
  have g0 : 0 < Int.gcd n d := Int.gcd_pos_of_ne_zero_right n (by omega)
  obtain ⟨x, hx⟩ := Int.gcd_dvd_left n d
  obtain ⟨y, hy⟩ := Int.gcd_dvd_right n d
  have e1 : n / (Int.gcd n d : Int) = x := by
    rw [Int.ediv_eq_of_eq_mul_right (by omega) hx]
  have e2 : d / (Int.gcd n d : Int) = y := by
    rw [Int.ediv_eq_of_eq_mul_right (by omega) hy]
  show n / (Int.gcd n d : Int) * d = n * (d / (Int.gcd n d : Int))
  rw [e1, e2]
  conv => lhs; rw [hy]
  conv => rhs; rw [hx]
  grind
/-- lowest terms are one -/
theorem nrm_one {a b : F} (ha : Nrm a) (hb : Nrm b) (h : a.1 * b.2 = b.1 * a.2) : a = b := by
  obtain ⟨a1, a2⟩ := a
  obtain ⟨b1, b2⟩ := b
  obtain ⟨pa, ga⟩ := ha
  obtain ⟨pb, gb⟩ := hb
  simp only at *
  have d1 : a2 ∣ b2 := by
    have z : a2 ∣ a1 * b2 := ⟨b1, by rw [h]; grind⟩
    exact (Int.dvd_gcd_mul_iff_dvd_mul (k := a2) (n := a1) (m := b2)).mpr z |> fun q => by
      rw [Int.gcd_comm, ga] at q
      simpa using q
  have d2 : b2 ∣ a2 := by
    have z : b2 ∣ b1 * a2 := ⟨a1, by rw [← h]; grind⟩
    exact (Int.dvd_gcd_mul_iff_dvd_mul (k := b2) (n := b1) (m := a2)).mpr z |> fun q => by
      rw [Int.gcd_comm, gb] at q
      simpa using q
  have e : a2 = b2 := Int.le_antisymm (Int.le_of_dvd pb d1) (Int.le_of_dvd pa d2)
  subst e
  have e2 : a1 = b1 := Int.eq_of_mul_eq_mul_right (by omega) h
  rw [e2]
theorem nf_of {a : F} {n d : Int} (ha : Nrm a) (hd : 0 < d) (h : a.1 * d = n * a.2) : a = nf n d := by
  refine nrm_one ha (nf_nrm hd) ?_
  have z := nf_mul1 (n := n) hd
  have w : (a.1 * (nf n d).2) * d = ((nf n d).1 * a.2) * d := by
    grind
  exact Int.eq_of_mul_eq_mul_right (by omega) w
/-! ### the program's own -/
def plusM (a b : F) : F :=
  let s : Int := (Int.gcd a.2 b.2 : Int)
  let t := a.2 / s
  let n := a.1 * (b.2 / s) + b.1 * t
  let v : Int := (Int.gcd n s : Int)
  (n / v, t * (b.2 / v))
def minusM (a b : F) : F := plusM a (-b.1, b.2)
theorem gcd_one_of {x y z : Int} (h : Int.gcd x y = 1) (d : z ∣ x) : Int.gcd z y = 1 := by
  have q := Int.gcd_dvd_gcd_of_dvd_left y d
  rw [h] at q
  exact Nat.dvd_one.mp q
theorem gcd_one_of2 {x y z : Int} (h : Int.gcd x y = 1) (d : z ∣ y) : Int.gcd x z = 1 := by
  rw [Int.gcd_comm] at h ⊢
  exact gcd_one_of h d
theorem gcd_add {x y k : Int} : Int.gcd (x + k * y) y = Int.gcd x y := by
  simp
theorem plus_nrm {a b : F} (ha : Nrm a) (hb : Nrm b) : Nrm (plusM a b) := by
  obtain ⟨x, p⟩ := a
  obtain ⟨y, q⟩ := b
  obtain ⟨pp, gp⟩ := ha
  obtain ⟨pq, gq⟩ := hb
  simp only at *
  have s0 : 0 < Int.gcd p q := Int.gcd_pos_of_ne_zero_right p (by omega)
  obtain ⟨p', hp⟩ := Int.gcd_dvd_left p q
  obtain ⟨q', hq⟩ := Int.gcd_dvd_right p q
  generalize hs : Int.gcd p q = s at *
  have ep : p / (s : Int) = p' := by rw [Int.ediv_eq_of_eq_mul_right (by omega) hp]
  have eq : q / (s : Int) = q' := by rw [Int.ediv_eq_of_eq_mul_right (by omega) hq]
  have pp' : 0 < p' := by
    rw [← ep]
    exact Int.ediv_pos_of_pos_of_dvd pp (by omega) ⟨p', hp⟩
  have pq' : 0 < q' := by
    rw [← eq]
    exact Int.ediv_pos_of_pos_of_dvd pq (by omega) ⟨q', hq⟩
  have cop : Int.gcd p' q' = 1 := by
    have z := Int.gcd_ediv_gcd_ediv_gcd (i := p) (j := q) (by rw [hs]; omega)
    rw [hs, ep, eq] at z
    exact z
  generalize hn : x * q' + y * p' = n
  have v0 : 0 < Int.gcd n (s : Int) := Int.gcd_pos_of_ne_zero_right n (by omega)
  have vd : (Int.gcd n (s : Int) : Int) ∣ (s : Int) := Int.gcd_dvd_right n s
  have vn : (Int.gcd n (s : Int) : Int) ∣ n := Int.gcd_dvd_left n s
  have cq : Int.gcd (n / (Int.gcd n (s : Int) : Int)) ((s : Int) / (Int.gcd n (s : Int) : Int)) = 1 := Int.gcd_ediv_gcd_ediv_gcd v0
  have dn : n / (Int.gcd n (s : Int) : Int) ∣ n := ⟨(Int.gcd n (s : Int) : Int), (Int.ediv_mul_cancel vn).symm⟩
  have np' : Int.gcd n p' = 1 := by
    have e1 : Int.gcd n p' = Int.gcd (x * q') p' := by
      rw [← hn]
      exact gcd_add
    have e2 : Int.gcd x p' = 1 := gcd_one_of2 gp ⟨s, by rw [hp]; grind⟩
    rw [e1, Int.gcd_mul_right_left_of_gcd_eq_one e2, Int.gcd_comm]
    exact cop
  have nq' : Int.gcd n q' = 1 := by
    have e1 : Int.gcd n q' = Int.gcd (y * p') q' := by
      rw [← hn, Int.add_comm]
      exact gcd_add
    have e2 : Int.gcd y q' = 1 := gcd_one_of2 gq ⟨s, by rw [hq]; grind⟩
    rw [e1, Int.gcd_mul_right_left_of_gcd_eq_one e2]
    exact cop
  have eqv : q / (Int.gcd n (s : Int) : Int) = q' * ((s : Int) / (Int.gcd n (s : Int) : Int)) := by
    rw [hq, Int.mul_comm, Int.mul_ediv_assoc _ vd]
  show 0 < (p / (Int.gcd p q : Int)) * (q / (Int.gcd (x * (q / (Int.gcd p q : Int)) + y * (p / (Int.gcd p q : Int))) (Int.gcd p q : Int) : Int)) ∧ Int.gcd ((x * (q / (Int.gcd p q : Int)) + y * (p / (Int.gcd p q : Int))) / (Int.gcd (x * (q / (Int.gcd p q : Int)) + y * (p / (Int.gcd p q : Int))) (Int.gcd p q : Int) : Int)) ((p / (Int.gcd p q : Int)) * (q / (Int.gcd (x * (q / (Int.gcd p q : Int)) + y * (p / (Int.gcd p q : Int))) (Int.gcd p q : Int) : Int))) = 1
  rw [hs, ep, eq, hn, eqv]
  have psv : 0 < (s : Int) / (Int.gcd n (s : Int) : Int) := Int.ediv_pos_of_pos_of_dvd (by omega) (by omega) vd
  refine ⟨Int.mul_pos pp' (Int.mul_pos pq' psv), ?_⟩
  rw [Int.gcd_mul_right_right_of_gcd_eq_one (gcd_one_of np' dn), Int.gcd_mul_right_right_of_gcd_eq_one (gcd_one_of nq' dn)]
  exact cq
theorem plus_eq {a b : F} (ha : Nrm a) (hb : Nrm b) : plusM a b = nf (a.1 * b.2 + b.1 * a.2) (a.2 * b.2) := by
  refine nf_of (plus_nrm ha hb) (Int.mul_pos ha.1 hb.1) ?_
  obtain ⟨x, p⟩ := a
  obtain ⟨y, q⟩ := b
  obtain ⟨pp, gp⟩ := ha
  obtain ⟨pq, gq⟩ := hb
  simp only at *
  have s0 : 0 < Int.gcd p q := Int.gcd_pos_of_ne_zero_right p (by omega)
  obtain ⟨p', hp⟩ := Int.gcd_dvd_left p q
  obtain ⟨q', hq⟩ := Int.gcd_dvd_right p q
  generalize hs : Int.gcd p q = s at *
  have ep : p / (s : Int) = p' := by rw [Int.ediv_eq_of_eq_mul_right (by omega) hp]
  have eq : q / (s : Int) = q' := by rw [Int.ediv_eq_of_eq_mul_right (by omega) hq]
  generalize hn : x * q' + y * p' = n
  have v0 : 0 < Int.gcd n (s : Int) := Int.gcd_pos_of_ne_zero_right n (by omega)
  obtain ⟨n', vn⟩ := Int.gcd_dvd_left n (s : Int)
  obtain ⟨s', vs⟩ := Int.gcd_dvd_right n (s : Int)
  generalize hv : Int.gcd n (s : Int) = v at *
  have en : n / (v : Int) = n' := by rw [Int.ediv_eq_of_eq_mul_right (by omega) vn]
  have eqv : q / (v : Int) = s' * q' := by
    rw [Int.ediv_eq_of_eq_mul_right (by omega) (show q = (v : Int) * (s' * q') by rw [← Int.mul_assoc, ← vs, ← hq])]
  show ((x * (q / (Int.gcd p q : Int)) + y * (p / (Int.gcd p q : Int))) / (Int.gcd (x * (q / (Int.gcd p q : Int)) + y * (p / (Int.gcd p q : Int))) (Int.gcd p q : Int) : Int)) * (p * q) = (x * q + y * p) * ((p / (Int.gcd p q : Int)) * (q / (Int.gcd (x * (q / (Int.gcd p q : Int)) + y * (p / (Int.gcd p q : Int))) (Int.gcd p q : Int) : Int)))
  rw [hs, ep, eq, hn, hv, en, eqv]
  have e1 : x * q + y * p = (s : Int) * n := by
    rw [← hn, hp, hq]
    grind
  rw [e1, hp, hq, vn]
  conv => lhs; rw [vs]
  conv => rhs; rw [vs]
  grind
theorem neg_nrm {b : F} (hb : Nrm b) : Nrm (-b.1, b.2) := ⟨hb.1, by
  show Int.gcd (-b.1) b.2 = 1
  rw [Int.neg_gcd]
  exact hb.2⟩
theorem minus_eq {a b : F} (ha : Nrm a) (hb : Nrm b) : minusM a b = nf (a.1 * b.2 - b.1 * a.2) (a.2 * b.2) := by
  unfold minusM
  rw [plus_eq ha (neg_nrm hb)]
  show nf (a.1 * b.2 + -b.1 * a.2) (a.2 * b.2) = _
  rw [Int.neg_mul, ← Int.sub_eq_add_neg]
theorem minus_nrm {a b : F} (ha : Nrm a) (hb : Nrm b) : Nrm (minusM a b) := plus_nrm ha (neg_nrm hb)
/-! ### sizes -/
def Sz (n : Nat) (a : F) : Prop := a.1.natAbs < 2 ^ n ∧ a.2.natAbs < 2 ^ n
theorem sz_le {x : Int} {m n : Nat} (h : x.natAbs < 2 ^ m) (hm : m ≤ n) : x.natAbs < 2 ^ n := Nat.lt_of_lt_of_le h (Nat.pow_le_pow_right (by decide) hm)
theorem Sz.mono {m n : Nat} {a : F} (h : Sz m a) (hm : m ≤ n) : Sz n a := ⟨sz_le h.1 hm, sz_le h.2 hm⟩
theorem sz_mul {x y : Int} {m n : Nat} (h : x.natAbs < 2 ^ m) (k : y.natAbs < 2 ^ n) : (x * y).natAbs < 2 ^ (m + n) := by
  rw [Int.natAbs_mul, Nat.pow_add]
  exact Nat.mul_lt_mul'' h k
theorem sz_add {x y : Int} {m : Nat} (h : x.natAbs < 2 ^ m) (k : y.natAbs < 2 ^ m) : (x + y).natAbs < 2 ^ (m + 1) := by
  rw [Nat.pow_succ]
  omega
theorem sz_sub {x y : Int} {m : Nat} (h : x.natAbs < 2 ^ m) (k : y.natAbs < 2 ^ m) : (x - y).natAbs < 2 ^ (m + 1) := by
  rw [Nat.pow_succ]
  omega
theorem sz_neg {x : Int} {m : Nat} (h : x.natAbs < 2 ^ m) : (-x).natAbs < 2 ^ m := by
  rw [Int.natAbs_neg]
  exact h
theorem sz_div {x y : Int} {m : Nat} (h : x.natAbs < 2 ^ m) (d : y ∣ x) : (x / y).natAbs < 2 ^ m := by
  rw [Int.natAbs_ediv_of_dvd d]
  exact Nat.lt_of_le_of_lt (Nat.div_le_self _ _) h
theorem sz_gcd {x y : Int} {m : Nat} (h : y.natAbs < 2 ^ m) (hy : y ≠ 0) : ((Int.gcd x y : Nat) : Int).natAbs < 2 ^ m := Nat.lt_of_le_of_lt (by rw [Int.natAbs_natCast]; exact Int.gcd_le_natAbs_right x hy) h
theorem sz_nf {n d : Int} {m : Nat} (h : n.natAbs < 2 ^ m) (k : d.natAbs < 2 ^ m) : Sz m (nf n d) := ⟨sz_div h (Int.gcd_dvd_left n d), sz_div k (Int.gcd_dvd_right n d)⟩
theorem sz_plus {a b : F} {m n : Nat} (ha : Nrm a) (hb : Nrm b) (h : Sz m a) (k : Sz n b) : Sz (m + n + 1) (plusM a b) := by
  rw [plus_eq ha hb]
  refine sz_nf (sz_add (sz_mul h.1 k.2) ?_) (sz_le (sz_mul h.2 k.2) (by omega))
  rw [Nat.add_comm m n]
  exact sz_mul k.1 h.2
theorem sz_minus {a b : F} {m n : Nat} (ha : Nrm a) (hb : Nrm b) (h : Sz m a) (k : Sz n b) : Sz (m + n + 1) (minusM a b) := sz_plus ha (neg_nrm hb) h ⟨sz_neg k.1, k.2⟩
/-! ### the law's own gcd -/
theorem gcd_step (a b : Int) : Int.gcd b (a % b) = Int.gcd a b := by
  have e : a % b = a + (-(a / b)) * b := by
    rw [Int.emod_def]
    grind
  rw [Int.gcd_comm, e, gcd_add]
/-! ### the law's own -/
def lplus (a b : F) : F := lf (a.1 * b.2 + b.1 * a.2) (a.2 * b.2)
def lminus (a b : F) : F := lf (a.1 * b.2 - b.1 * a.2) (a.2 * b.2)
def ltimes (a b : F) : F := lf (a.1 * b.1) (a.2 * b.2)
theorem lf_pos {n d : Int} (h : 0 < d) : lf n d = nf n d := by
  unfold lf
  exact if_neg (by omega)
theorem lplus_eq {a b : F} (ha : Nrm a) (hb : Nrm b) : lplus a b = plusM a b := by
  unfold lplus
  rw [lf_pos (Int.mul_pos ha.1 hb.1), plus_eq ha hb]
theorem lminus_eq {a b : F} (ha : Nrm a) (hb : Nrm b) : lminus a b = minusM a b := by
  unfold lminus
  rw [lf_pos (Int.mul_pos ha.1 hb.1), minus_eq ha hb]
/-! ### order, quotients -/
def less (a b : F) : Bool := decide (a.1 * b.2 < b.1 * a.2)
def cmpM (a b : F) : Int := if a.1 * b.2 < b.1 * a.2 then -1 else if b.1 * a.2 < a.1 * b.2 then 1 else 0
theorem le_trans {a b c : F} (ha : 0 < a.2) (hb : 0 < b.2) (hc : 0 < c.2) (h1 : a.1 * b.2 ≤ b.1 * a.2) (h2 : b.1 * c.2 ≤ c.1 * b.2) : a.1 * c.2 ≤ c.1 * a.2 := by
  have z1 : a.1 * b.2 * c.2 ≤ b.1 * a.2 * c.2 := Int.mul_le_mul_of_nonneg_right h1 (by omega)
  have z2 : b.1 * c.2 * a.2 ≤ c.1 * b.2 * a.2 := Int.mul_le_mul_of_nonneg_right h2 (by omega)
  have z3 : (a.1 * c.2) * b.2 ≤ (c.1 * a.2) * b.2 := by grind
  exact Int.le_of_mul_le_mul_right z3 hb
/-- the best of a row, by «is i before b» -/
def bestL (f : F → F → Bool) : F → List F → F := List.foldl fun b i => if f i b then i else b
/-! ### quotients -/
theorem lf_cross {n d : Int} (h : d ≠ 0) : (lf n d).1 * d = n * (lf n d).2 := by
  unfold lf
  split
  · rename_i c
    have z := nf_mul1 (n := 0 - n) (show 0 < 0 - d by omega)
    grind
  · exact nf_mul1 (by omega)
end FR
namespace PL
open PySem PySem.Spec PyProof.Rows L2 FR
variable [Nm]
section
variable {K : PySem.W.Frag} {G : Hp}
theorem dpa_ints_inv : ∀ (ns : List Int) (xs : List V), DpAll K G xs (ns.map PyData.int) → xs = ns.map V.int
  | [], _, r => by
    cases r
    rfl
  | n :: ns, _, r => by
    cases r with
    | cons r1 r2 =>
      cases r1
      rw [dpa_ints_inv ns _ r2, List.map_cons]
theorem dpa_at {vs : List V} {ds : List PyData} {i : Int} {x : PyData} (r : DpAll K G vs ds) (h : atI ds i = some x) : ∃ v, atI vs i = some v ∧ Dp K G v x := by
  unfold atI at h ⊢
  rw [dpa_len r]
  cases e : ixN ds.length i with
  | none => rw [e] at h; simp at h
  | some j =>
    rw [e] at h
    exact dpa_get r h
end
section
variable {K : PySem.W.Frag} {ρ ρ1 : Rho} {I J L N : Asn} {ta tb tc te : TE} {d e : Dat} {t u : TT} {b c : Bool} {p : Addr} {C C' : DS}
theorem e_ixT' {ds : List PyData} {i : Int} {x : PyData} (ha : E K ta ρ I (.t ds) J) (hb : E K tb ρ J (.i i) L) (h : atI ds i = some x) : E K (tOp (rIxT K) ta tb) ρ I (.d x) L :=
  e_op ha hb fun G H a b gh lo dx dy Q q => by
    cases dx with
    | tup s r =>
      obtain rfl := dv_int dy
      obtain ⟨v, h1, h2⟩ := dpa_at r h
      exact ⟨_, _, _, v, rfl, rfl, same_t gh s, h1, q v G H (Same.refl _) gh lo h2⟩
theorem e_ixL' {ds : List PyData} {i : Int} {x : PyData} (ha : E K ta ρ I (.d (.list ds)) J) (hb : E K tb ρ J (.i i) L) (h : atI ds i = some x) : E K (tOp (rIxL K) ta tb) ρ I (.d x) L :=
  e_op ha hb fun G H a b gh lo dx dy Q q => by
    cases dx with
    | lst s r =>
      obtain rfl := dv_int dy
      obtain ⟨v, h1, h2⟩ := dpa_at r h
      exact ⟨_, _, _, v, rfl, rfl, gh.seq s, h1, q v G H (Same.refl _) gh lo h2⟩
/-! ### fractions as data -/
abbrev fr (a : F) : PyData := .tuple [.int a.1, .int a.2]
theorem e_f1 {a : F} (ha : E K ta ρ I (.d (fr a)) J) (hb : E K tb ρ J (.i 0) L) : E K (tOp (rIxT K) ta tb) ρ I (.i a.1) L := e_ixT' ha hb rfl
theorem e_f2 {a : F} (ha : E K ta ρ I (.d (fr a)) J) (hb : E K tb ρ J (.i 1) L) : E K (tOp (rIxT K) ta tb) ρ I (.i a.2) L := e_ixT' ha hb rfl
theorem e_frac {tr : TA} {x y : Int} {a : F} (hr : A K tr ρ I [.i x, .i y] J) (h : a = (x, y)) : E K (tTup tr) ρ I (.d (fr a)) J := by
  subst h
  exact e_tup hr (.cons (.cons .nil)) (show 2 ≤ 100000 by decide)
/-- a fraction in lowest terms below 2 ^ n -/
structure Ok (n : Nat) (a : F) : Prop where
  nrm : Nrm a
  sz : Sz n a
theorem Ok.mono {m n : Nat} {a : F} (h : Ok m a) (hm : m ≤ n) : Ok n a := ⟨h.nrm, h.sz.mono hm⟩
theorem ok_plus {m n : Nat} {a b : F} (h : Ok m a) (k : Ok n b) : Ok (m + n + 1) (plusM a b) := ⟨plus_nrm h.nrm k.nrm, sz_plus h.nrm k.nrm h.sz k.sz⟩
theorem ok_minus {m n : Nat} {a b : F} (h : Ok m a) (k : Ok n b) : Ok (m + n + 1) (minusM a b) := ⟨minus_nrm h.nrm k.nrm, sz_minus h.nrm k.nrm h.sz k.sz⟩
theorem ok_neg {n : Nat} {b : F} (k : Ok n b) : Ok n (-b.1, b.2) := ⟨neg_nrm k.nrm, sz_neg k.sz.1, k.sz.2⟩
theorem ok_lf {n : Nat} {x y : Int} (hy : y ≠ 0) (hx : x.natAbs < 2 ^ n) (hz : y.natAbs < 2 ^ n) : Ok n (lf x y) := by
  refine ⟨lf_nrm hy, ?_⟩
  unfold lf
  split
  · exact sz_nf (by rw [Int.zero_sub, Int.natAbs_neg]; exact hx) (by rw [Int.zero_sub, Int.natAbs_neg]; exact hz)
  · exact sz_nf hx hz
theorem divW {i j : Int} {n : Nat} (h : 0 < j) (hb : j.natAbs < 2 ^ n) (hn : n ≤ 9000) : CDivW i j := wide_div (b := 9000) h (sz_le hb hn) (by decide) (by decide)
theorem mulW {i j : Int} {m n : Nat} (ha : i.natAbs < 2 ^ m) (hb : j.natAbs < 2 ^ n) (h : m + n ≤ 900000) : CMulW i j := wide_mul (a := m + 1) (b := n + 1) (sz_le ha (by omega)) (sz_le hb (by omega)) (by omega) (by omega) (by omega)
/-! ### what the common defs promise -/
def RPlus (f : F → F → F) (ds : List Dat) (d : Dat) : Prop := ∃ a b : F, ds = [.d (fr a), .d (fr b)] ∧ Ok 4000 a ∧ Ok 4000 b ∧ d = .d (fr (f a b))
theorem RPlus.mk {f : F → F → F} {a b : F} {m n : Nat} (ha : Ok m a) (hb : Ok n b) (hm : m ≤ 4000 := by omega) (hn : n ≤ 4000 := by omega) : RPlus f [.d (fr a), .d (fr b)] (.d (fr (f a b))) := ⟨a, b, rfl, ha.mono hm, hb.mono hn, rfl⟩
theorem RPlus.len {f : F → F → F} {ds : List Dat} {d : Dat} (h : RPlus f ds d) : ds.length = 2 := by
  obtain ⟨a, b, rfl, _⟩ := h
  rfl
def RGcd (ds : List Dat) (d : Dat) : Prop := ∃ x y : Int, ds = [.i x, .i y] ∧ 0 ≤ x ∧ 0 ≤ y ∧ d = .i (Int.gcd x y : Int)
def RF (ds : List Dat) (d : Dat) : Prop := ∃ x y : Int, ds = [.i x, .i y] ∧ y ≠ 0 ∧ x.natAbs < 2 ^ 8500 ∧ y.natAbs < 2 ^ 8500 ∧ d = .d (fr (lf x y))
theorem RF.mk {x y : Int} {m n : Nat} (h0 : y ≠ 0) (hx : x.natAbs < 2 ^ m) (hy : y.natAbs < 2 ^ n) (hm : m ≤ 8500 := by omega) (hn : n ≤ 8500 := by omega) : RF [.i x, .i y] (.d (fr (lf x y))) := ⟨x, y, rfl, h0, sz_le hx hm, sz_le hy hn, rfl⟩
def RTake (ds : List Dat) (C : DS) (d : Dat) (C' : DS) : Prop := ∃ m : Int, ds = [.i m] ∧ DOk C ∧ 0 < m ∧ m.natAbs < 2 ^ 8500 ∧ d = .i (take C m).1 ∧ C' = (take C m).2
/-- draws from -m to m -/
def RSigned (ds : List Dat) (C : DS) (d : Dat) (C' : DS) : Prop := ∃ m : Int, ds = [.i m] ∧ DOk C ∧ 0 ≤ m ∧ m.natAbs < 2 ^ 8000 ∧ d = .i ((take C (2 * m + 1)).1 - m) ∧ C' = (take C (2 * m + 1)).2
def partM (C : DS) (m : Int) : F × DS :=
  let p := take C (2 * (m * 2) + 1)
  let q := take p.2 3
  (lf (p.1 - m * 2) (1 + q.1), q.2)
def RPart (ds : List Dat) (C : DS) (d : Dat) (C' : DS) : Prop := ∃ m : Int, ds = [.i m] ∧ DOk C ∧ 0 ≤ m ∧ m.natAbs < 2 ^ 7000 ∧ d = .d (fr (partM C m).1) ∧ C' = (partM C m).2
theorem part_ok {C : DS} {m : Int} {n : Nat} (h : DOk C) (hm : 0 ≤ m) (hn : m.natAbs < 2 ^ n) : DOk (partM C m).2 ∧ Ok (n + 2) (partM C m).1 := by
  obtain ⟨h1, h2, h3⟩ := take_ok (C := C) (m := 2 * (m * 2) + 1) h (by omega)
  obtain ⟨h4, h5, h6⟩ := take_ok (C := (take C (2 * (m * 2) + 1)).2) (m := 3) h1 (by omega)
  refine ⟨h4, ok_lf ?_ ?_ ?_⟩
  · omega
  · have : (2 : Nat) ^ (n + 2) = 4 * 2 ^ n := by rw [Nat.pow_add]; omega
    omega
  · have : (2 : Nat) ^ (n + 2) = 4 * 2 ^ n := by rw [Nat.pow_add]; omega
    have := Nat.one_le_two_pow (n := n)
    omega
def vecM (C : DS) (m : Int) : (F × F) × DS :=
  let p := partM C m
  let q := partM p.2 m
  ((p.1, q.1), q.2)
def RVec (ds : List Dat) (C : DS) (d : Dat) (C' : DS) : Prop := ∃ m : Int, ds = [.i m] ∧ DOk C ∧ 0 ≤ m ∧ m.natAbs < 2 ^ 7000 ∧ d = .d (.tuple [fr (vecM C m).1.1, fr (vecM C m).1.2]) ∧ C' = (vecM C m).2
/-- the script's list at the law's beginning -/
def spBegin (K : PySem.W.Frag) : Sp := fun vs H Q _ => ∃ (a : Addr) (ns : List Int) (G : Hp), vs = [.ref a] ∧ Same G H ∧ SqL K G a (ns.map V.int) ∧ ∀ G2 H2 p C, Stp NoA G H G2 H2 → DOk C → G2 p = none → H p = none → (dA K p C).ok G2 H2 → Q (.ref p) H2
theorem s_beginT {ts : TS} {X : XK} {tr : TA} {ns : List Int} {i : Nat} {k : Out} (hr : A K tr ρ I [.d (.list (ns.map PyData.int))] I) (h : ∀ p C, DOk C → ¬ I.foot p → S K ts (ρ.set i (some (.r p))) (dJ K p C I) k) : S K (tSeq (tAsg (tCall (spBegin K) [] X tr) (gName i)) ts) ρ I k := fun G H σ D gh en io f => hr G H σ gh en io _ fun vs G1 H1 g1 gh1 j1 dvs => by
  rw [List.append_nil]
  obtain ⟨v, rfl, h1⟩ := dva1 dvs
  cases h1 with
  | lst s r =>
    rename_i a xs
    obtain rfl := dpa_ints_inv ns xs r
    refine ⟨a, ns, G1, rfl, gh1, s, fun G2 H2 p C st ok gp hp k => ?_⟩
    refine h p C ok (fun z => ?_) G2 H2 _ D st.gh (env_set (d := .r p) rfl (env_mono (g1.trans st.gg) en)) ⟨k, Asn.pure_st st j1⟩ (f.mono (g1.trans st.gg))
    obtain ⟨o, ho⟩ := I.own G1 H1 p j1 z
    rw [ho] at hp
    cases hp
theorem s_rtT {ts : TS} (h : S K ts ρ I (.rt d J)) : S K ts ρ I (.rt d .tt) := fun G H σ D gh en io f => h G H σ D gh en io fun v G2 H2 g2 gh2 _ dv => f v G2 H2 g2 gh2 trivial dv
end
theorem gcd_abs {x y : Int} : Int.gcd (x.natAbs : Int) y = Int.gcd x y := by simp [Int.gcd]
theorem cxK {CX : CXT} {P : Program} {w : World} {K : PySem.W.Frag} {mg : Str → Option Value} {base : Heap} {N : List Str} {q : Str} {sc : Scope} {f : Addr} {cd : Value} {A : Around} {o : List Env} {s : Shared} {H : Hp} {E : XK} :
    (cxOf CX P w K mg base N q sc f cd A o s H E).K = K := rfl
section
variable {K : PySem.W.Frag} {ρ ρ1 : Rho} {I : Asn} {ta tb tc te : TE} {d e : Dat} {t u : TT} {b c : Bool} {ts us : TS} {k : Out}
/-! ### the same where nothing changes -/
theorem p_cons {tr : TA} {ds : List Dat} (ha : E K ta ρ I d I) (hr : A K tr ρ I ds I) : A K (tCons ta tr) ρ I (d :: ds) I := a_cons ha hr
theorem p_f1 {a : F} (ha : E K ta ρ I (.d (fr a)) I) : E K (tOp (rIxT K) ta (tC (.int 0))) ρ I (.i a.1) I := e_f1 ha e_int
theorem p_f2 {a : F} (ha : E K ta ρ I (.d (fr a)) I) : E K (tOp (rIxT K) ta (tC (.int 1))) ρ I (.i a.2) I := e_f2 ha e_int
theorem p_add {i j : Int} (ha : E K ta ρ I (.i i) I) (hb : E K tb ρ I (.i j) I) : E K (tOp (rI0 fun i j => .int (i + j)) ta tb) ρ I (.i (i + j)) I := e_add ha hb
theorem p_sub {i j : Int} (ha : E K ta ρ I (.i i) I) (hb : E K tb ρ I (.i j) I) : E K (tOp (rI0 fun i j => .int (i - j)) ta tb) ρ I (.i (i - j)) I := e_sub ha hb
theorem p_mul {i j : Int} (ha : E K ta ρ I (.i i) I) (hb : E K tb ρ I (.i j) I) (hc : CMulW i j) : E K (tOp (rI CMulW fun i j => .int (i * j)) ta tb) ρ I (.i (i * j)) I := e_mul ha hb hc
theorem p_div {i j : Int} (ha : E K ta ρ I (.i i) I) (hb : E K tb ρ I (.i j) I) (hc : CDivW i j) : E K (tOp (rI CDivW fun i j => .int (i / j)) ta tb) ρ I (.i (i / j)) I := e_div ha hb hc
theorem p_mod {i j : Int} (ha : E K ta ρ I (.i i) I) (hb : E K tb ρ I (.i j) I) (hc : 0 < j) : E K (tOp (rI (fun _ j => 0 < j) fun i j => .int (i % j)) ta tb) ρ I (.i (i % j)) I := e_mod ha hb hc
theorem p_pow {i j : Int} (ha : E K ta ρ I (.i i) I) (hb : E K tb ρ I (.i j) I) (hc : CPow i j) : E K (tOp (rI CPow fun i j => .int (i ^ j.toNat)) ta tb) ρ I (.i (i ^ j.toNat)) I := e_pow ha hb hc
theorem p_lt {i j : Int} (ha : E K ta ρ I (.i i) I) (hb : E K tb ρ I (.i j) I) : E K (tOp (rI0 fun i j => .bl (decide (i < j))) ta tb) ρ I (.b (decide (i < j))) I := e_lt ha hb
theorem p_le {i j : Int} (ha : E K ta ρ I (.i i) I) (hb : E K tb ρ I (.i j) I) : E K (tOp (rI0 fun i j => .bl (decide (i ≤ j))) ta tb) ρ I (.b (decide (i ≤ j))) I := e_le ha hb
theorem p_gt {i j : Int} (ha : E K ta ρ I (.i i) I) (hb : E K tb ρ I (.i j) I) : E K (tOp (rI0 fun i j => .bl (decide (j < i))) ta tb) ρ I (.b (decide (j < i))) I := e_gt ha hb
theorem p_ge {i j : Int} (ha : E K ta ρ I (.i i) I) (hb : E K tb ρ I (.i j) I) : E K (tOp (rI0 fun i j => .bl (decide (j ≤ i))) ta tb) ρ I (.b (decide (j ≤ i))) I := e_ge ha hb
theorem p_eqI {i j : Int} (ha : E K ta ρ I (.i i) I) (hb : E K tb ρ I (.i j) I) : E K (tOp rEq ta tb) ρ I (.b (decide (i = j))) I := e_eqI ha hb
theorem p_neI {i j : Int} (ha : E K ta ρ I (.i i) I) (hb : E K tb ρ I (.i j) I) : E K (tOp rNe ta tb) ρ I (.b (!decide (i = j))) I := e_neI ha hb
theorem p_neg {i : Int} (ha : E K ta ρ I (.i i) I) : E K (tUn (rU fun i => .int (-i)) ta) ρ I (.i (-i)) I := e_neg ha
theorem p_gcd {i j : Int} {tr : TA} (hr : A K tr ρ I [.i i, .i j] I) : E K (tCB rGcd tr) ρ I (.i (Int.gcd i j : Nat)) I := e_gcd hr
theorem p_int1 {i : Int} {tr : TA} (hr : A K tr ρ I [.i i] I) : E K (tCB (fun xs H Q => (∃ i, xs = [.int i] ∧ Q (.int i) H) ∨ ∃ k, xs = [.bl k] ∧ Q (.int (if k then 1 else 0)) H) tr) ρ I (.i i) I := e_int1 hr
theorem p_abs {i : Int} {tr : TA} (hr : A K tr ρ I [.i i] I) : E K (tCB (fun xs H Q => ∃ i, xs = [.int i] ∧ Q (.int (if i < 0 then -i else i)) H) tr) ρ I (.i (i.natAbs : Nat)) I := e_abs hr
theorem p_len {ds : List PyData} {tr : TA} (hr : A K tr ρ I [.d (.list ds)] I) : E K (tCB (fun xs H Q => ∃ p ys, xs = [.ref p] ∧ (SqL K H p ys ∨ SqT K H p ys) ∧ Q (.int ys.length) H) tr) ρ I (.i (ds.length : Nat)) I := e_len hr
theorem p_lenT {ds : List PyData} {tr : TA} (hr : A K tr ρ I [.t ds] I) : E K (tCB (fun xs H Q => ∃ p ys, xs = [.ref p] ∧ (SqL K H p ys ∨ SqT K H p ys) ∧ Q (.int ys.length) H) tr) ρ I (.i (ds.length : Nat)) I := e_lenT hr
theorem p_ixT {ds : List PyData} {i : Int} {x : PyData} (ha : E K ta ρ I (.t ds) I) (hb : E K tb ρ I (.i i) I) (h : atI ds i = some x) : E K (tOp (rIxT K) ta tb) ρ I (.d x) I := e_ixT' ha hb h
theorem p_i0 {ds : List PyData} {x : PyData} (ha : E K ta ρ I (.t (x :: ds)) I) : E K (tOp (rIxT K) ta (tC (.int 0))) ρ I (.d x) I := e_ixT (j := 0) ha e_int rfl
theorem p_i1 {ds : List PyData} {x y : PyData} (ha : E K ta ρ I (.t (x :: y :: ds)) I) : E K (tOp (rIxT K) ta (tC (.int 1))) ρ I (.d y) I := e_ixT (j := 1) ha e_int rfl
theorem p_i2 {ds : List PyData} {x y z : PyData} (ha : E K ta ρ I (.t (x :: y :: z :: ds)) I) : E K (tOp (rIxT K) ta (tC (.int 2))) ρ I (.d z) I := e_ixT (j := 2) ha e_int rfl
theorem p_ixL {ds : List PyData} {i : Int} {x : PyData} (ha : E K ta ρ I (.d (.list ds)) I) (hb : E K tb ρ I (.i i) I) (h : atI ds i = some x) : E K (tOp (rIxL K) ta tb) ρ I (.d x) I := e_ixL' ha hb h
theorem p_call {T : Tbs} {R : List Dat → Dat → Prop} {X : XK} {tr : TA} {ds : List Dat} [HasT T I] (hr : A K tr ρ I ds I) (h : R ds d) : E K (tCall (spT K T R) [] X tr) ρ I d I := e_call hr h
theorem p_frac {tr : TA} {x y : Int} {a : F} (hr : A K tr ρ I [.i x, .i y] I) (h : a = (x, y)) : E K (tTup tr) ρ I (.d (fr a)) I := e_frac hr h
theorem p_tup {tr : TA} {ds : List Dat} {xs : List PyData} (hr : A K tr ρ I ds I) (hd : Ds ds xs) (hl : xs.length ≤ 100000) : E K (tTup tr) ρ I (.t xs) I := e_tup hr hd hl
theorem p_tup2 {tr : TA} {x y : PyData} (hr : A K tr ρ I [.d x, .d y] I) : E K (tTup tr) ρ I (.t [x, y]) I := e_tup hr (.cons (.cons .nil)) (show 2 ≤ 100000 by decide)
theorem p_asg {i : Nat} (h : E K te ρ I d I) : S K (tAsg te (gName i)) ρ I (.nx (ρ.set i (some d)) I) := s_asg h
theorem q_asg {i : Nat} (h : E K te ρ I d I) (h2 : S K us (ρ.set i (some d)) I k) : S K (tSeq (tAsg te (gName i)) us) ρ I k := s_seq (s_asg h) h2
theorem p_ret (h : E K te ρ I d I) : S K (tRet te) ρ I (.rt d I) := s_ret h
theorem p_par {i j : Nat} {tr : TA} (h : A K tr ρ I [d, e] I) : S K (tPar i j tr) ρ I (.nx ((ρ.set i (some d)).set j (some e)) I) := s_par h
theorem p_test (h : E K te ρ I (.b b) I) : T K (tTest te) ρ I b I := t_test h
theorem p_eqD {x y : PyData} (ha : E K ta ρ I (.d x) I) (hb : E K tb ρ I (.d y) I) (hx : SeqAt.shaped x = true) (hy : SeqAt.shaped y = true) : E K (tOp (rEqD K) ta tb) ρ I (.b (PyData.eqv x y)) I := e_eqD ha hb hx hy
theorem p_neD {x y : PyData} (ha : E K ta ρ I (.d x) I) (hb : E K tb ρ I (.d y) I) (hx : SeqAt.shaped x = true) (hy : SeqAt.shaped y = true) : E K (tOp (rNeD K) ta tb) ρ I (.b (!PyData.eqv x y)) I := e_neD ha hb hx hy
/-- an if by a test of known outcome; then what follows -/
theorem q_ifT {b : Bool} (h : T K t ρ I b I) (hb : b = true) (h2 : S K ts ρ I k) : S K (tIfS t ts us) ρ I k := s_ifT (hb ▸ h) h2
theorem q_ifF {b : Bool} (h : T K t ρ I b I) (hb : b = false) (h2 : S K us ρ I k) : S K (tIfS t ts us) ρ I k := s_ifF (hb ▸ h) h2
/-- an if without else that is not entered, ahead of the rest -/
theorem q_skip {b : Bool} {tr : TS} (h : T K t ρ I b I) (hb : b = false) (h2 : S K tr ρ I k) : S K (tSeq (tIfS t ts tNext) tr) ρ I k := s_seq (q_ifF h hb s_next) h2
variable {p : Addr} {C : DS} {J : Asn}
/-! ### the drawing list's items and stores -/
theorem d_ix0 (h : E K te ρ (dJ K p C J) (.r p) (dJ K p C J)) : E K (tOp (rIxL K) te (tC (.int 0))) ρ (dJ K p C J) (.d (.list (C.ns.map PyData.int))) (dJ K p C J) := e_dix (j := 0) h e_int rfl
theorem d_ix1 (h : E K te ρ (dJ K p C J) (.r p) (dJ K p C J)) : E K (tOp (rIxL K) te (tC (.int 1))) ρ (dJ K p C J) (.i (C.pos : Nat)) (dJ K p C J) := e_dix (j := 1) h e_int rfl
theorem d_ix2 (h : E K te ρ (dJ K p C J) (.r p) (dJ K p C J)) : E K (tOp (rIxL K) te (tC (.int 2))) ρ (dJ K p C J) (.i C.rest) (dJ K p C J) := e_dix (j := 2) h e_int rfl
theorem d_ix3 (h : E K te ρ (dJ K p C J) (.r p) (dJ K p C J)) : E K (tOp (rIxL K) te (tC (.int 3))) ρ (dJ K p C J) (.i C.seed) (dJ K p C J) := e_dix (j := 3) h e_int rfl
theorem d_set1 {n : Nat} {x : Int} (he : E K te ρ (dJ K p C J) (.i x) (dJ K p C J)) (hx : x = (n : Nat)) (h : E K ta ρ (dJ K p C J) (.r p) (dJ K p C J)) (hf : ¬ J.foot p) : S K (tAsg te (gSub ta (tC (.int 1)) rSetL)) ρ (dJ K p C J) (.nx ρ (dJ K p { C with pos := n } J)) := by
  subst hx
  exact s_dset (j := 1) (C' := { C with pos := n }) he h e_int (by decide) rfl ⟨rfl, rfl⟩ hf
theorem d_set2 {x : Int} (he : E K te ρ (dJ K p C J) (.i x) (dJ K p C J)) (h : E K ta ρ (dJ K p C J) (.r p) (dJ K p C J)) (hf : ¬ J.foot p) : S K (tAsg te (gSub ta (tC (.int 2)) rSetL)) ρ (dJ K p C J) (.nx ρ (dJ K p { C with rest := x } J)) :=
  s_dset (j := 2) (C' := { C with rest := x }) he h e_int (by decide) rfl ⟨rfl, rfl⟩ hf
theorem d_set3 {x : Int} (he : E K te ρ (dJ K p C J) (.i x) (dJ K p C J)) (h : E K ta ρ (dJ K p C J) (.r p) (dJ K p C J)) (hf : ¬ J.foot p) : S K (tAsg te (gSub ta (tC (.int 3)) rSetL)) ρ (dJ K p C J) (.nx ρ (dJ K p { C with seed := x } J)) :=
  s_dset (j := 3) (C' := { C with seed := x }) he h e_int (by decide) rfl ⟨rfl, rfl⟩ hf
theorem p_list {ds : List PyData} {tr : TA} (hr : A K tr ρ I [.d (.list ds)] I) : E K (tCB (fun xs H Q => ∃ p ys, xs = [.ref p] ∧ (SqL K H p ys ∨ SqT K H p ys) ∧ ∀ l, H l = none → Q (.ref l) (upd H l (.lst ys))) tr) ρ I (.d (.list ds)) I :=
  e_cb hr fun G H vs gh jo h Q q => by
    obtain ⟨v, rfl, h1⟩ := dva1 h
    cases h1 with
    | lst s r =>
      rename_i a xs
      refine ⟨_, _, rfl, .inl (gh.seq s), fun l hl => ?_⟩
      have st := Stp.new (o := .lst xs) gh hl
      exact q _ _ _ st.gg st.gh (Asn.pure_st st jo) (.lst (.inl (.inl upd_same)) (dp_monos st.gg ds _ r))
/-! ### the law's beginning -/
def seedF (s n : Int) : Int := (s * 69621 + n % 2147483629 + 7) % 2147483647
def seedAt (ns : List Int) : Nat → Int
  | 0 => 1
  | i + 1 => seedF (seedAt ns i) (ns.getD i 0)
theorem seed_ok (ns : List Int) (i : Nat) : 0 ≤ seedAt ns i ∧ seedAt ns i < 2147483647 := by
  cases i with
  | zero => exact ⟨(by decide : (0 : Int) ≤ 1), (by decide : (1 : Int) < 2147483647)⟩
  | succ i => exact ⟨Int.emod_nonneg _ (by decide), Int.emod_lt_of_pos _ (by decide)⟩
/-- what _law_begin leaves -/
def begP (K : PySem.W.Frag) (G0 H0 : Hp) (v : V) (G2 H2 : Hp) : Prop := ∃ p C, v = .ref p ∧ DOk C ∧ Stp NoA G0 H0 G2 H2 ∧ G2 p = none ∧ H0 p = none ∧ (dA K p C).ok G2 H2
theorem s_retBeg {G0 H0 : Hp} {tr : TA} {ns : List Int} {sd : Int} (hs : 0 ≤ sd ∧ sd < 2147483647) (hr : A K tr ρ (.since NoA G0 H0) [.d (.list (ns.map PyData.int)), .i 0, .i 0, .i sd] (.since NoA G0 H0)) : S K (tRet (tLst tr)) ρ (.since NoA G0 H0) (.fin (begP K G0 H0)) := fun G H σ D gh en io f => hr G H σ gh en io _ fun vs G1 H1 g1 gh1 j1 dvs => by
  match vs, dvs with
  | [v0, v1, v2, v3], ⟨h0, h1, h2, h3, _⟩ =>
    obtain rfl := dv_int h1
    obtain rfl := dv_int h2
    obtain rfl := dv_int h3
    cases h0 with
    | lst s r =>
      rename_i a xs
      obtain rfl := dpa_ints_inv ns xs r
      refine ⟨sz_of (show 4 ≤ 100000 by decide), fun p hp => ?_⟩
      have st := Stp.newM (o := HO.lst [.ref a, .int 0, .int 0, .int sd]) gh1 hp
      have gp : G1 p = none := gh1.free hp
      have hp0 : H0 p = none := by
        cases e : H0 p with
        | none => rfl
        | some u =>
          have j1' : Stp NoA G0 H0 G1 H1 := j1
          obtain ⟨x, hx⟩ := j1'.ex p u e
          rw [hx] at hp
          cases hp
      have j1' : Stp NoA G0 H0 G1 H1 := j1
      exact f _ G1 _ g1 st.gh ⟨p, ⟨a, ns, 0, 0, sd⟩, rfl, ⟨Int.le_refl _, hs⟩, j1'.trans st, gp, hp0, gp, upd_same, s⟩
theorem body_beg {ts : TS} {N : List Str} {vs : List V} {H : Hp} {Q : VK} {X : XK} (hb : ∀ (ns : List Int) G0 H0, S K ts (some (.d (.list (ns.map PyData.int))) :: List.replicate (N.length - 1) none) (.since NoA G0 H0) (.fin (begP K G0 H0))) (h : spBegin K vs H Q X) :
    ts { nx := fun _ H' => Q .non H', rt := Q } (L2.start N vs) H := by
  obtain ⟨a, ns, G, rfl, gh, s, q⟩ := h
  refine hb ns G H G H _ _ gh ?_ (Stp.refl gh) fun v G2 H2 g2 gh2 ⟨p, C, ev, ok, st, gp, hp, k⟩ => ?_
  · unfold L2.start
    exact env_start (vs := [.ref a]) (ds := [.d (.list (ns.map PyData.int))]) _ ⟨.lst s (dpa_ints ns), trivial⟩
  · subst ev
    exact q G2 H2 p C st ok gp hp k
end
/-! ### the law itself -/
/-- the tables as the law's run begins -/
theorem start_tabs {K : PySem.W.Frag} {H : Hp} {a : Addr} {xs : List V} {T : Tbs} (hS : SqL K H a xs) (hg : ∀ p ∈ T.gs, ∃ ps : Array Value, H p = some (.tbl ps) ∧ TriplesOk ps.toList ∧ p ∉ T.ls) (hl : ∀ p ∈ T.ls, H p = some (.tbl #[])) : ∃ G, Same G H ∧ SqL K G a xs ∧ TabsIn T G H := by
  have ne : ∀ b o, H b = some o → (∀ ps, o ≠ .tbl ps) → b ∉ T.ls := fun b o e n m => by
    rw [hl b m] at e
    exact n _ (Option.some.inj e).symm
  have at_ : ∀ b, b ∉ T.ls → (fun b => if b ∈ T.ls then none else H b) b = H b := fun b n => if_neg n
  refine ⟨fun b => if b ∈ T.ls then none else H b, fun b o e => ?_, ?_, fun p hp => ?_, fun p hp => ⟨if_pos hp, LamX.TabS.nil (hl p hp)⟩⟩
  · by_cases m : b ∈ T.ls
    · have e : (if b ∈ T.ls then none else H b) = some o := e
      rw [if_pos m] at e
      cases e
    · have e : (if b ∈ T.ls then none else H b) = some o := e
      rw [if_neg m] at e
      exact .of e
  · rcases hS with (h | ⟨o, h⟩) | h
    · exact .inl (.inl ((at_ a (ne a _ h fun _ z => by cases z)).trans h))
    · exact .inl (.inr ⟨o, (at_ a (ne a _ h fun _ z => by cases z)).trans h⟩)
    · exact .inr h
  · obtain ⟨ps, e, t, n⟩ := hg p hp
    exact ⟨ps, (at_ p n).trans e, t⟩
def spLawT (K : PySem.W.Frag) (T : Tbs) : Sp := fun vs H Q _ => ∃ (a : Addr) (ns : List Int), vs = [.ref a] ∧ SqL K H a (ns.map V.int) ∧ ns.length ≤ 63 ∧ (∃ G, Same G H ∧ SqL K G a (ns.map V.int) ∧ TabsIn T G H) ∧ ∀ H', Q (.bl true) H'
theorem len_LT {K : PySem.W.Frag} {T : Tbs} {vs : List V} {H : Hp} {Q : VK} {X : XK} (h : spLawT K T vs H Q X) : vs.length = 1 := by
  obtain ⟨_, _, rfl, _⟩ := h
  rfl
theorem body_LT {K : PySem.W.Frag} {T : Tbs} {ts : TS} {N : List Str} {vs : List V} {H : Hp} {Q : VK} {X : XK} (hb : ∀ ns : List Int, ns.length ≤ 63 → S K ts (some (.d (.list (ns.map PyData.int))) :: List.replicate (N.length - 1) none) (.tab T) (.rt (.b true) .tt)) (h : spLawT K T vs H Q X) :
    ts { nx := fun _ H' => Q .non H', rt := Q } (L2.start N vs) H := by
  obtain ⟨a, ns, rfl, _, hl, ⟨G, gh, s, tb⟩, q⟩ := h
  refine hb ns hl G H _ _ gh ?_ tb fun v G2 H2 g2 gh2 _ dv => ?_
  · unfold L2.start
    exact env_start (vs := [.ref a]) (ds := [.d (.list (ns.map PyData.int))]) _ ⟨.lst s (dpa_ints ns), trivial⟩
  · obtain rfl := dv_bl dv
    exact q H2
/-- two vectors -/
def RVec2 (f : F → F → F) (ds : List Dat) (d : Dat) : Prop := ∃ a b x y : F, ds = [.t [fr a, fr b], .t [fr x, fr y]] ∧ Ok 4000 a ∧ Ok 4000 b ∧ Ok 4000 x ∧ Ok 4000 y ∧ d = .t [fr (f a x), fr (f b y)]
theorem RVec2.len {f : F → F → F} {ds : List Dat} {d : Dat} (h : RVec2 f ds d) : ds.length = 2 := by
  obtain ⟨_, _, _, _, rfl, _⟩ := h
  rfl
theorem RVec2.mk {f : F → F → F} {a b x y : F} {m n : Nat} (ha : Ok m a) (hb : Ok m b) (hx : Ok n x) (hy : Ok n y) (hm : m ≤ 4000 := by omega) (hn : n ≤ 4000 := by omega) : RVec2 f [.t [fr a, fr b], .t [fr x, fr y]] (.t [fr (f a x), fr (f b y)]) := ⟨a, b, x, y, rfl, ha.mono hm, hb.mono hm, hx.mono hn, hy.mono hn, rfl⟩
theorem shaped_v (a b : F) : SeqAt.shaped (.tuple [fr a, fr b]) = true := rfl
theorem eqv_v (a b : F) : PyData.eqv (.tuple [fr a, fr b]) (.tuple [fr a, fr b]) = true := by simp [PyData.eqv, PyData.eqvAll]
end PL
namespace PL
open PySem PySem.Spec PyProof.Rows L2 FR
variable [Nm]
/-! ### defs that may raise -/
inductive Res where
  | ok (d : Dat)
  | err (C : Addr)
def RPost (K : PySem.W.Frag) (G H : Hp) (Q : VK) (X : XK) : Res → Prop
  | .ok d => ∀ v G2 H2, Stp NoA G H G2 H2 → Dv K G2 v d → Q v H2
  | .err C => ∀ G2 H2, Stp NoA G H G2 H2 → X (.ref C) none H2
def spXT (K : PySem.W.Frag) (T : Tbs) (R : List Dat → Res → Prop) : Sp := fun vs H Q X => ∃ G ds r, Same G H ∧ DvAll K G vs ds ∧ R ds r ∧ TabsIn T G H ∧ RPost K G H Q X r
abbrev spX (K : PySem.W.Frag) (R : List Dat → Res → Prop) : Sp := spXT K noT R
def outR (I : Asn) : Res → Out
  | .ok d => .rt d I
  | .err _ => .fin fun _ _ _ => False
section
variable {K : PySem.W.Frag} {ρ ρ1 : Rho} {I J L N : Asn} {ta tb tc te : TE} {d e : Dat} {t u : TT} {b c : Bool} {ts us : TS} {k : Out} {R : List Dat → Res → Prop} {tr : TA} {ds : List Dat} {tabs : Tbs}
theorem len_X {n : Nat} (hl : ∀ ds r, R ds r → ds.length = n) {vs : List V} {H : Hp} {Q : VK} {X : XK} (h : spXT K tabs R vs H Q X) : vs.length = n := by
  obtain ⟨G, ds, r, gh, dvs, hr, _, q⟩ := h
  rw [dva_len dvs, hl ds r hr]
theorem e_callX {X : XK} [hT : HasT tabs J] (hr : A K tr ρ I ds J) (h : R ds (.ok d)) : E K (tCall (spXT K tabs R) [] X tr) ρ I d J := fun G H σ gh en io Q q => hr G H σ gh en io _ fun vs G1 H1 g1 gh1 j1 dvs => by
  rw [List.append_nil]
  exact ⟨G1, ds, .ok d, gh1, dvs, h, hT.get _ _ j1, fun v G2 H2 s dv => q v G2 H2 (g1.trans s.gg) s.gh (Asn.pure_st s j1) dv⟩
/-- a call that raises: nothing behind it is looked at -/
theorem e_callE {X : XK} {C : Addr} [hT : HasT tabs J] (hr : A K tr ρ I ds J) (h : R ds (.err C)) (hx : ∀ G H, J.ok G H → X (.ref C) none H) : E K (tCall (spXT K tabs R) [] X tr) ρ I d L := fun G H σ gh en io Q q => hr G H σ gh en io _ fun vs G1 H1 g1 gh1 j1 dvs => by
  rw [List.append_nil]
  exact ⟨G1, ds, .err C, gh1, dvs, h, hT.get _ _ j1, fun G2 H2 s => hx G2 H2 (Asn.pure_st s j1)⟩
theorem body_XT {N : List Str} {vs : List V} {H : Hp} {Q : VK} {X : XK} (hb : ∀ ds r, R ds r → ∀ I : Asn, HasT tabs I → (∀ C, r = .err C → ∀ G H, I.ok G H → X (.ref C) none H) → S K ts (ds.map some ++ List.replicate (N.length - ds.length) none) I (outR I r)) (h : spXT K tabs R vs H Q X) :
    ts { nx := fun _ H' => Q .non H', rt := Q } (L2.start N vs) H := by
  obtain ⟨G, ds, r, gh, dvs, hr, tb, q⟩ := h
  have en : EnvD K G (L2.start N vs) (ds.map some ++ List.replicate (N.length - ds.length) none) := by
    unfold L2.start
    rw [dva_len dvs]
    exact env_start _ dvs
  cases r with
  | ok d => exact hb ds _ hr ((Asn.since NoA G H).and (Asn.tab tabs)) inferInstance (fun C z => by cases z) G H _ _ gh en ⟨Stp.refl gh, tb⟩ fun v G2 H2 g2 gh2 j2 dv => q v G2 H2 j2.1 dv
  | err C =>
    refine hb ds _ hr ((Asn.since NoA G H).and (Asn.tab tabs)) inferInstance (fun C' z G2 H2 j2 => ?_) G H _ _ gh en ⟨Stp.refl gh, tb⟩ fun v G2 H2 g2 gh2 z => z.elim
    cases z
    exact q G2 H2 j2.1
/-- a def that ends without a return -/
theorem body_XNT {N : List Str} {vs : List V} {H : Hp} {Q : VK} {X : XK} (hb : ∀ ds r, R ds r → ∀ I : Asn, HasT tabs I → (∀ C, r = .err C → ∀ G H, I.ok G H → X (.ref C) none H) →
      (r = .ok (.d .none) ∧ ∃ ρ1, S K ts (ds.map some ++ List.replicate (N.length - ds.length) none) I (.nx ρ1 I)) ∨ (∃ C, r = .err C ∧ ∀ k, S K ts (ds.map some ++ List.replicate (N.length - ds.length) none) I k)) (h : spXT K tabs R vs H Q X) :
    ts { nx := fun _ H' => Q .non H', rt := Q } (L2.start N vs) H := by
  obtain ⟨G, ds, r, gh, dvs, hr, tb, q⟩ := h
  have en : EnvD K G (L2.start N vs) (ds.map some ++ List.replicate (N.length - ds.length) none) := by
    unfold L2.start
    rw [dva_len dvs]
    exact env_start _ dvs
  have hx : ∀ C, r = .err C → ∀ G2 H2, ((Asn.since NoA G H).and (Asn.tab tabs)).ok G2 H2 → X (.ref C) none H2 := fun C z G2 H2 j2 => by
    subst z
    exact q G2 H2 j2.1
  rcases hb ds r hr ((Asn.since NoA G H).and (Asn.tab tabs)) inferInstance hx with ⟨rfl, ρ1, hs⟩ | ⟨C, rfl, hk⟩
  · exact hs G H _ _ gh en ⟨Stp.refl gh, tb⟩ fun G2 H2 σ2 g2 gh2 en2 j2 => q .non G2 H2 j2.1 .non
  · exact hk (.fin fun _ _ _ => False) G H _ _ gh en ⟨Stp.refl gh, tb⟩ fun v G2 H2 g2 gh2 z => z.elim
theorem body_XN {N : List Str} {vs : List V} {H : Hp} {Q : VK} {X : XK} (hb : ∀ ds r, R ds r → ∀ I : Asn, (∀ C, r = .err C → ∀ G H, I.ok G H → X (.ref C) none H) →
      (r = .ok (.d .none) ∧ ∃ ρ1, S K ts (ds.map some ++ List.replicate (N.length - ds.length) none) I (.nx ρ1 I)) ∨ (∃ C, r = .err C ∧ ∀ k, S K ts (ds.map some ++ List.replicate (N.length - ds.length) none) I k)) (h : spX K R vs H Q X) :
    ts { nx := fun _ H' => Q .non H', rt := Q } (L2.start N vs) H := body_XNT (fun ds r hr I _ => hb ds r hr I) h
theorem s_raise' (h : ∀ G H σ (D : Ends), Same G H → I.ok G H → ts D σ H) : S K ts ρ I k := fun G H σ D gh en io f => h G H σ D gh io
/-- a statement that raises, whatever follows -/
theorem s_dropE (h : E K te ρ I d L) (hL : ∀ G H, ¬ L.ok G H) : S K (tDrop te) ρ I k := fun G H σ D gh en io f => h G H σ gh en io _ fun v G1 H1 g1 gh1 j1 dv => absurd j1 (hL G1 H1)
def Asn.no : Asn := ⟨NoA, fun _ _ => False, fun _ _ _ _ _ _ _ h => h, fun _ _ _ z => z.elim⟩
/-! ### isinstance -/
theorem tyx_t {H : Hp} {a : Addr} {xs : List V} (h : SqT K H a xs) : TyX K H (.ref a) (.type "tuple") := by
  rcases h with (h | ⟨o, h⟩) | ⟨o, its, n, h, hc, _⟩
  · exact .base (.tup h)
  · exact .fTuple h
  · exact .kTuple h hc
theorem e_isT {xs : List PyData} {n : String} (h : kitB "tuple" n = some b) (ha : E K ta ρ I (.t xs) J) : E K (tCB (rIsi K) (tCons ta (tCons (tC (.ty n)) tNil))) ρ I (.b b) J := fun G H σ gh en io Q q =>
  ha G H σ gh en io _ fun x G1 H1 g1 gh1 j1 dx => by
    cases dx with
    | tup s r => exact ⟨_, .ty n, .type "tuple", .type n, b, rfl, .ty n, tyx_t (same_t gh1 s), kit_ty h, q _ G1 H1 g1 gh1 j1 (.bl b)⟩
end
/-! ### lists that may change -/
section
variable {K : PySem.W.Frag} {ρ ρ1 : Rho} {I J L N : Asn} {ta tb tc te : TE} {d e : Dat} {t u : TT} {b c : Bool} {ts us : TS} {k : Out} {tr : TA} {q : Addr} {ds : List PyData} {x : PyData}
theorem s_pre {I' : Asn} (h : ∀ G H, I.ok G H → I'.ok G H) (hs : S K ts ρ I' k) : S K ts ρ I k := fun G H σ D gh en io f => hs G H σ D gh en (h G H io) f
theorem s_post {J' : Asn} (h : ∀ G H, J.ok G H → J'.ok G H) (hs : S K ts ρ I (.nx ρ1 J)) : S K ts ρ I (.nx ρ1 J') := fun G H σ D gh en io f => hs G H σ D gh en io fun G2 H2 σ2 a b c j => f G2 H2 σ2 a b c (h G2 H2 j)
def lA (K : PySem.W.Frag) (q : Addr) (ds : List PyData) : Asn := ⟨(· = q), fun G H => G q = none ∧ ∃ vs, H q = some (.lst vs) ∧ DpAll K G vs ds, fun M G H G2 H2 n s ⟨g, vs, h, r⟩ => ⟨s.fr q _ (n q rfl) h g, vs, s.hh q _ (n q rfl) h, dp_monos s.gg ds vs r⟩, fun G H a ⟨_, vs, h, _⟩ (z : a = q) => ⟨.lst vs, by rw [z]; exact h⟩⟩
abbrev lJ (K : PySem.W.Frag) (q : Addr) (ds : List PyData) (J : Asn) : Asn := (lA K q ds).and J
theorem Stp.frz {G H : Hp} {o : HO} (gh : Same G H) (gq : G q = none) (hq : H q = some o) (nt : ∀ ps, o ≠ .tbl ps := by exact fun _ z => by cases z) : Stp (· = q) G H (upd G q o) H := by
  refine ⟨same_new gq, fun a u e => ?_, fun _ _ _ e => .of e, fun a o n e g => ?_, fun a o e => ⟨o, e⟩, fun P t => ?_⟩
  rotate_left
  · rw [upd_ne n]
    exact g
  · obtain ⟨ps, hP⟩ := t.some
    have ne : P ≠ q := fun z => by
      rw [z, hq] at hP
      exact nt ps (Option.some.inj hP)
    exact t.keep (fun g => by rw [upd_ne ne]; exact g) fun b o e _ _ => e
  · by_cases z : a = q
    · subst z
      rw [upd_same] at e
      rw [hq]
      exact .of e
    · rw [upd_ne z] at e
      exact gh a u e
/-- x = [] -/
theorem s_newL {i : Nat} (h : ∀ q, ¬ I.foot q → S K us (ρ.set i (some (.r q))) (lJ K q [] I) k) : S K (tSeq (tAsg (tLst tNil) (gName i)) us) ρ I k := fun G H σ D gh en io f =>
  ⟨Nat.zero_le _, fun p hp => by
    have s := Stp.newM (o := HO.lst []) gh hp
    have gp : G p = none := gh.free hp
    refine h p (fun z => ?_) G _ _ D s.gh (env_set (d := .r p) rfl en) ⟨⟨gp, [], upd_same, .nil⟩, Asn.pure_st s io⟩ f
    obtain ⟨o, ho⟩ := I.own G H p io z
    rw [ho] at hp
    cases hp⟩
/-- x.append(e) -/
theorem s_app {i : Nat} (he : E K te ρ (lJ K q ds J) (.d x) (lJ K q ds J)) (hi : ρ[i]? = some (some (.r q))) (hl : ds.length < 100000) (hf : ¬ J.foot q) : S K (tDrop (tBM K "list" rAppend (tVar i) (tCons te tNil))) ρ (lJ K q ds J) (.nx ρ (lJ K q (ds ++ [x]) J)) := fun G H σ D gh en io f => by
  obtain ⟨v, hv, rfl⟩ := env_get en hi
  have io' := io
  obtain ⟨⟨gq, vs, hq, r⟩, jo⟩ := io
  refine ⟨.ref q, hv, .inl ⟨rfl, _, .inl (.inl hq)⟩, he G H σ gh en io' _ fun v G1 H1 g1 gh1 j1 dv => ?_⟩
  obtain ⟨⟨gq1, vs1, hq1, r1⟩, jo1⟩ := j1
  have s := Stp.store (o := HO.lst (vs1 ++ [v])) gh1 gq1 hq1
  refine ⟨q, vs1, v, rfl, rfl, hq1, ?_, ?_⟩
  · rw [dpa_len r1]
    exact Nat.lt_of_lt_of_le hl (by decide)
  · exact f G1 _ σ g1 s.gh (env_mono g1 en) ⟨⟨gq1, _, upd_same, dpa_app r1 (.cons dv .nil)⟩, J.st _ _ _ _ _ (fun a fa (z : a = q) => hf (z ▸ fa)) s jo1⟩
theorem env_put {G : Hp} {i : Nat} (hx : Dp K G (.ref q) x) : ∀ {σ : List (Option V)} {ρ : Rho} {i : Nat}, EnvD K G σ ρ → ρ[i]? = some (some (.r q)) → EnvD K G σ (ρ.set i (some (.d x)))
  | [], [], _, _, e => by simp at e
  | s :: _, o :: _, 0, h, e => by
    have eo : o = some (.r q) := by simpa using e
    obtain ⟨h1, h2⟩ := h
    rw [eo] at h1
    obtain ⟨v, h3, h4⟩ := h1
    exact ⟨⟨v, h3, by rw [show v = V.ref q from h4]; exact hx⟩, h2⟩
  | _ :: σ, _ :: ρ, i + 1, h, e => ⟨h.1, env_put hx (i := i) h.2 (by simpa using e)⟩
  | [], _ :: _, _, h, _ => h.elim
  | _ :: _, [], _, h, _ => h.elim
/-- the list at q changes no more -/
theorem s_freeze {i : Nat} (hi : ρ[i]? = some (some (.r q))) (hf : ¬ J.foot q) (hs : S K ts (ρ.set i (some (.d (.list ds)))) J k) : S K ts ρ (lJ K q ds J) k := fun G H σ D gh en io f => by
  obtain ⟨⟨gq, vs, hq, r⟩, jo⟩ := io
  have s : Stp (· = q) G H (upd G q (.lst vs)) H := Stp.frz gh gq hq
  refine hs (upd G q (.lst vs)) H σ D s.gh (env_put (x := .list ds) (i := i) (.lst (.inl (.inl upd_same)) (dp_monos s.gg ds vs r)) (env_mono s.gg en) hi) (J.st _ _ _ _ _ (fun a fa (z : a = q) => hf (z ▸ fa)) s jo) (f.mono s.gg)
/-! ### comprehensions -/
theorem env_none {G : Hp} : ∀ {σ : List (Option V)} {ρ : Rho} {i : Nat}, EnvD K G σ ρ → EnvD K G (σ.set i none) (ρ.set i none)
  | [], [], _, _ => trivial
  | _ :: _, _ :: _, 0, h => ⟨trivial, h.2⟩
  | _ :: σ, _ :: ρ, i + 1, h => ⟨h.1, env_none (i := i) h.2⟩
  | [], _ :: _, _, h => h.elim
  | _ :: _, [], _, h => h.elim
theorem dpa_bools : ∀ (bs : List Bool) (xs : List V) {G : Hp}, DpAll K G xs (bs.map PyData.bool) → xs = bs.map V.bl
  | [], _, _, r => by
    cases r
    rfl
  | n :: ns, _, _, r => by
    cases r with
    | cons r1 r2 =>
      cases r1
      rw [dpa_bools ns _ r2, List.map_cons]
theorem e_any {bs : List Bool} (hr : A K tr ρ I [.d (.list (bs.map PyData.bool))] J) : E K (tCB (rAny K) tr) ρ I (.b (bs.any id)) J :=
  e_cb hr fun G H vs gh jo h Q q => by
    obtain ⟨v, rfl, h1⟩ := dva1 h
    cases h1 with
    | lst s r =>
      obtain rfl := dpa_bools bs _ r
      exact ⟨_, bs, rfl, gh.seq s, q _ G H (Same.refl _) gh jo (.bl _)⟩
abbrev rTupOf (K : PySem.W.Frag) : List V → Hp → VK → Prop := fun xs H Q => ∃ p ys, xs = [.ref p] ∧ ((SqL K H p ys ∧ ∀ l, H l = none → Q (.ref l) (upd H l (.tup ys))) ∨ (SqT K H p ys ∧ Q (.ref p) H))
theorem e_tupOf (hr : A K tr ρ I [.d (.list ds)] J) : E K (tCB (fun xs H Q => ∃ p ys, xs = [.ref p] ∧ ((SqL K H p ys ∧ ∀ l, H l = none → Q (.ref l) (upd H l (.tup ys))) ∨ (SqT K H p ys ∧ Q (.ref p) H))) tr) ρ I (.t ds) J :=
  e_cb hr fun G H vs gh jo h Q q => by
    obtain ⟨v, rfl, h1⟩ := dva1 h
    cases h1 with
    | lst s r =>
      rename_i a xs
      refine ⟨_, _, rfl, .inl ⟨gh.seq s, fun l hl => ?_⟩⟩
      have st := Stp.new (o := .tup xs) gh hl
      exact q _ _ _ st.gg st.gh (Asn.pure_st st jo) (.tup (.inl (.inl upd_same)) (dp_monos st.gg ds _ r))
end
end PL
namespace PL
open PySem PySem.Spec PyProof.Rows L2 FR
/-! ### zip of three tuples -/
end PL
namespace PL
open PySem PySem.Spec PyProof.Rows L2 FR
variable [Nm]
section
variable {K : PySem.W.Frag} {ρ ρ1 ρ2 : Rho} {I J L N : Asn} {ta tb tc te : TE} {d e : Dat} {t u : TT} {b c : Bool} {ts us : TS} {k : Out} {tr : TA} {q : Addr} {ds : List PyData} {x y : PyData}
theorem e_post {J' : Asn} (h : ∀ G H, J.ok G H → J'.ok G H) (hs : E K te ρ I d J) : E K te ρ I d J' := fun G H σ gh en io Q q => hs G H σ gh en io Q fun v G2 H2 a b j => q v G2 H2 a b (h G2 H2 j)
theorem e_pre {I' : Asn} (h : ∀ G H, I.ok G H → I'.ok G H) (hs : E K te ρ I' d J) : E K te ρ I d J := fun G H σ gh en io Q q => hs G H σ gh en (h G H io) Q q
/-! ### targets -/
def GJ (K : PySem.W.Frag) (g : TG) (x : PyData) (ρ ρ' : Rho) : Prop := ∀ G H σ v (Q : L2.St → Hp → Prop), Same G H → EnvD K G σ ρ → Dp K G v x → (∀ σ', EnvD K G σ' ρ' → Q σ' H) → g v σ H Q
def GJs (K : PySem.W.Frag) (g : TGs) (xs : List PyData) (ρ ρ' : Rho) : Prop := ∀ G H σ vs (Q : L2.St → Hp → Prop), Same G H → EnvD K G σ ρ → DpAll K G vs xs → (∀ σ', EnvD K G σ' ρ' → Q σ' H) → g vs σ H Q
theorem g_name {i : Nat} : GJ K (gName i) x ρ (ρ.set i (some (.d x))) := fun G H σ v Q gh en dv q => q _ (env_set (d := .d x) dv en)
theorem g_tup {g : TGs} {n : Nat} (hn : ds.length = n) (h : GJs K g ds ρ ρ1) : GJ K (gTup K n g) (.tuple ds) ρ ρ1 := fun G H σ v Q gh en dv q => by
  cases dv with
  | tup s r => exact ⟨_, _, rfl, same_t gh s, by rw [dpa_len r, hn], h G H σ _ Q gh en r q⟩
theorem g_nil : GJs K gNil [] ρ ρ := fun G H σ vs Q gh en dv q => by
  cases dv
  exact ⟨rfl, q σ en⟩
theorem g_cons {g : TG} {gs : TGs} (h : GJ K g x ρ ρ1) (hs : GJs K gs ds ρ1 ρ2) : GJs K (gCons g gs) (x :: ds) ρ ρ2 := fun G H σ vs Q gh en dv q => by
  cases dv with
  | cons a b => exact ⟨_, _, rfl, h G H σ _ _ gh en a fun σ' en' => hs G H σ' _ Q gh en' b q⟩
theorem s_asgG {g : TG} (h : E K te ρ I (.d x) J) (hg : GJ K g x ρ ρ1) : S K (tAsg te g) ρ I (.nx ρ1 J) := fun G H σ D gh en io f => h G H σ gh en io _ fun v G1 H1 g1 gh1 j1 dv => hg G1 H1 σ v _ gh1 (env_mono g1 en) dv fun σ' en' => f G1 H1 σ' g1 gh1 en' j1
/-! ### for, with any target, that may be left by a return in turn m -/
def Out.isRt (k : Out) : Prop := ∃ d J, k = .rt d J
/-- the turns: turn i goes on for i < m; m is the end, or turn m returns -/
structure Turns (K : PySem.W.Frag) (g : TG) (ts : TS) (xs : Nat → Option PyData) (n : Nat) (P : Nat → Rho) (V : Nat → Asn) (m : Nat) (k : Out) : Prop where
  le : m ≤ n
  go : ∀ i x, i < m → xs i = some x → ∃ ρ', GJ K g x (P i) ρ' ∧ S K ts ρ' (V i) (.nx (P (i + 1)) (V (i + 1)))
  fin : (m = n ∧ k = .nx (P n) (V n)) ∨ (m < n ∧ k.isRt ∧ ∀ x, xs m = some x → ∃ ρ', GJ K g x (P m) ρ' ∧ S K ts ρ' (V m) k)
theorem Turns.all {g : TG} {xs : Nat → Option PyData} {n : Nat} {P : Nat → Rho} {V : Nat → Asn} (go : ∀ i x, i < n → xs i = some x → ∃ ρ', GJ K g x (P i) ρ' ∧ S K ts ρ' (V i) (.nx (P (i + 1)) (V (i + 1)))) : Turns K g ts xs n P V n (.nx (P n) (V n)) := ⟨Nat.le_refl _, go, .inl ⟨rfl, rfl⟩⟩
/-- one turn, at the item v (data x): what the loop's rules ask -/
theorem Turns.turn {g : TG} {xs : Nat → Option PyData} {n : Nat} {P : Nat → Rho} {V : Nat → Asn} {m : Nat} (T : Turns K g ts xs n P V m k) {D : Ends} {G0 G' H : Hp} {σ : L2.St} {i : Nat} {v : L2.V} (f : Fin K D G0 k) (hi : i < n) (him : i ≤ m) (hx : xs i = some x) (a1 : Same G0 G') (a2 : Same G' H) (en : EnvD K G' σ (P i)) (vo : (V i).ok G' H) (dv : Dp K G' v x) :
    ∃ N : L2.St → Hp → Prop, (∀ σ' H', N σ' H' → i < m ∧ ∃ G2, Same G0 G2 ∧ Same G2 H' ∧ EnvD K G2 σ' (P (i + 1)) ∧ (V (i + 1)).ok G2 H') ∧ g v σ H fun σ2 H2 => ts { D with nx := N, ct := N, bk := D.nx } σ2 H2 := by
  by_cases c : i < m
  · obtain ⟨ρ', hg, hs⟩ := T.go i x c hx
    refine ⟨fun σ' H' => i < m ∧ ∃ G2, Same G0 G2 ∧ Same G2 H' ∧ EnvD K G2 σ' (P (i + 1)) ∧ (V (i + 1)).ok G2 H', fun _ _ z => z, ?_⟩
    exact hg G' H σ v _ a2 en dv fun σ' en' => hs G' H σ' _ a2 en' vo fun G2 H2 σ2 g2 gh2 en2 j2 => ⟨c, G2, a1.trans g2, gh2, en2, j2⟩
  · obtain rfl : i = m := by omega
    rcases T.fin with ⟨e, _⟩ | ⟨_, hk, ht⟩
    · omega
    · obtain ⟨ρ', hg, hs⟩ := ht x hx
      obtain ⟨d, J, rfl⟩ := hk
      refine ⟨fun _ _ => False, fun _ _ z => z.elim, ?_⟩
      exact hg G' H σ v _ a2 en dv fun σ' en' => hs G' H σ' _ a2 en' vo (f.mono a1 : Fin K D G' (.rt d J))
/-! ### new lists -/
theorem e_lstL {ds : List Dat} {xs : List PyData} (hr : A K tr ρ I ds J) (hd : Ds ds xs) (hl : xs.length ≤ 100000) : E K (tLst tr) ρ I (.l xs) J :=
  fun G H σ gh en io Q q => hr G H σ gh en io _ fun vs G1 H1 g1 gh1 j1 dxs => by
    have r : DpAll K G1 vs xs := dva_dp (by rw [← hd.map]; exact dxs)
    refine ⟨by rw [dpa_len r]; exact sz_of hl, fun p hp => ?_⟩
    have s := Stp.new (o := .lst vs) gh1 hp
    exact q _ _ _ (g1.trans s.gg) s.gh (Asn.pure_st s j1) ⟨p, vs, rfl, upd_same, dp_monos s.gg xs vs r⟩
theorem e_l2d (h : E K te ρ I (.l ds) J) : E K te ρ I (.d (.list ds)) J := fun G H σ gh en io Q q => h G H σ gh en io Q fun v G1 H1 g1 gh1 j1 ⟨a, vs, ev, ha, r⟩ => q v G1 H1 g1 gh1 j1 (by rw [ev]; exact .lst (.inl (.inl ha)) r)
theorem cut_to {α : Type} {xs : List V} {j : Nat} : cutV xs none (some (j : Nat)) = xs.take j := by
  unfold cutV
  rw [HT.sIx_none, HT.sIx_nat, List.drop_zero, Nat.sub_zero]
  by_cases h : j ≤ xs.length
  · rw [Nat.min_eq_left h]
  · rw [Nat.min_eq_right (by omega), List.take_of_length_le (Nat.le_refl _), List.take_of_length_le (by omega)]
theorem cut_from {xs : List V} {j : Nat} : cutV xs (some (j : Nat)) none = xs.drop j := by
  unfold cutV
  rw [HT.sIx_none, HT.sIx_nat]
  by_cases h : j ≤ xs.length
  · rw [Nat.min_eq_left h, List.take_of_length_le (by rw [List.length_drop]; omega)]
  · rw [Nat.min_eq_right (by omega), List.drop_of_length_le (Nat.le_refl _), List.drop_of_length_le (by omega), List.take_nil]
theorem dpa_take {G : Hp} : ∀ {vs : List V} {ds : List PyData} (n : Nat), DpAll K G vs ds → DpAll K G (vs.take n) (ds.take n)
  | _, _, 0, _ => .nil
  | _, _, _ + 1, .nil => .nil
  | _, _, n + 1, .cons a b => .cons a (dpa_take n b)
theorem dpa_drop {G : Hp} : ∀ {vs : List V} {ds : List PyData} (n : Nat), DpAll K G vs ds → DpAll K G (vs.drop n) (ds.drop n)
  | _, _, 0, h => h
  | _, _, _ + 1, .nil => .nil
  | _, _, n + 1, .cons _ b => dpa_drop n b
theorem e_sliceFrom {j : Nat} (ha : E K ta ρ I (.d (.list ds)) I) (hb : E K tb ρ I (.i (j : Nat)) I) : E K (tSl (rSlL K) ta (tPart tb) tNoPart) ρ I (.l (ds.drop j)) I := fun G H σ gh en io Q q =>
  ha G H σ gh en io _ fun v G1 H1 g1 gh1 j1 dv => hb G1 H1 σ gh1 (env_mono g1 en) j1 _ fun w G2 H2 g2 gh2 j2 dw => by
    obtain rfl := dv_int dw
    cases dv with
    | lst s r =>
      rename_i a xs
      refine ⟨_, rfl, a, xs, rfl, (g2.trans gh2).seq s, fun p hp => ?_⟩
      rw [cut_from]
      have st := Stp.new (o := .lst (xs.drop j)) gh2 hp
      exact q _ _ _ ((g1.trans g2).trans st.gg) st.gh (Asn.pure_st st j2) ⟨p, _, rfl, upd_same, dpa_drop j (dp_monos (g2.trans st.gg) ds xs r)⟩
theorem e_cat {es : List PyData} (ha : E K ta ρ I (.l ds) J) (hb : E K tb ρ J (.l es) L) (hl : ds.length + es.length ≤ 100000) : E K (tOp rCat ta tb) ρ I (.l (ds ++ es)) L :=
  e_op ha hb fun G H a b gh lo ⟨p, vs, e1, h1, r1⟩ ⟨q', ws, e2, h2, r2⟩ Q q => by
    subst e1 e2
    refine ⟨p, q', vs, ws, rfl, rfl, gh _ _ h1, gh _ _ h2, by rw [dpa_len r1, dpa_len r2]; exact sz_of hl, fun l hp => ?_⟩
    have st := Stp.new (o := .lst (vs ++ ws)) gh hp
    exact q _ _ _ st.gg st.gh (Asn.pure_st st lo) ⟨l, _, rfl, upd_same, dpa_app (dp_monos st.gg ds vs r1) (dp_monos st.gg es ws r2)⟩
/-! ### [x for x in xs if t] -/
/-! ### lists that change by place -/
/-- x = [a, b, ..], to be changed -/
theorem s_newLA {i : Nat} {ds : List Dat} {xs : List PyData} (hr : A K tr ρ I ds J) (hd : Ds ds xs) (hl : xs.length ≤ 100000) (h : ∀ q, ¬ J.foot q → S K us (ρ.set i (some (.r q))) (lJ K q xs J) k) : S K (tSeq (tAsg (tLst tr) (gName i)) us) ρ I k := fun G H σ D gh en io f =>
  hr G H σ gh en io _ fun vs G1 H1 g1 gh1 j1 dxs => by
    have r : DpAll K G1 vs xs := dva_dp (by rw [← hd.map]; exact dxs)
    refine ⟨by rw [dpa_len r]; exact sz_of hl, fun p hp => ?_⟩
    have s := Stp.newM (o := HO.lst vs) gh1 hp
    have gp : G1 p = none := gh1.free hp
    refine h p (fun z => ?_) G1 _ _ D s.gh (env_set (d := .r p) rfl (env_mono g1 en)) ⟨⟨gp, vs, upd_same, r⟩, Asn.pure_st s j1⟩ (f.mono g1)
    obtain ⟨o, ho⟩ := J.own G1 H1 p j1 z
    rw [ho] at hp
    cases hp
theorem dpa_set {G : Hp} {v : V} (hv : Dp K G v x) : ∀ {vs : List V} {ds : List PyData} (n : Nat), DpAll K G vs ds → DpAll K G (vs.set n v) (ds.set n x)
  | _, _, _, .nil => .nil
  | _, _, 0, .cons _ b => .cons hv b
  | _, _, n + 1, .cons a b => .cons a (dpa_set hv n b)
/-- x[j] = e -/
theorem s_setL {i j : Nat} (he : E K te ρ I (.d x) (lJ K q ds J)) (hi : ρ[i]? = some (some (.r q))) (hb : E K tb ρ (lJ K q ds J) (.i (j : Nat)) (lJ K q ds J)) (hj : j < ds.length) (hf : ¬ J.foot q) :
    S K (tAsg te (gSub (tVar i) tb rSetL)) ρ I (.nx ρ (lJ K q (ds.set j x) J)) := fun G H σ D gh en io f => he G H σ gh en io _ fun v G1 H1 g1 gh1 j1 dv => by
  obtain ⟨w, hw, rfl⟩ := env_get (env_mono g1 en) hi
  refine ⟨.ref q, hw, hb G1 H1 σ gh1 (env_mono g1 en) j1 _ fun u G2 H2 g2 gh2 j2 du => ?_⟩
  obtain rfl := dv_int du
  obtain ⟨⟨gq, vs, hq, r⟩, jo⟩ := j2
  have lv := dpa_len r
  have s := Stp.store (o := HO.lst (vs.set j v)) gh2 gq hq
  refine ⟨q, vs, (j : Int), j, rfl, rfl, hq, ?_, ?_⟩
  · unfold ixN
    rw [if_pos (by omega), if_pos (by omega)]
    simp
  · exact f G2 _ σ (g1.trans g2) s.gh (env_mono (g1.trans g2) en) ⟨⟨gq, _, upd_same, dpa_set (dp_mono g2 _ _ dv) j r⟩, J.st _ _ _ _ _ (fun a fa (z : a = q) => hf (z ▸ fa)) s jo⟩
theorem dv_non {G : Hp} {v : V} (h : Dv K G v (.d .none)) : v = .non := by
  cases h
  rfl
/-- x is None, of data that is told -/
def isNon : PyData → Bool
  | .none => true
  | _ => false
theorem non_dec {G : Hp} {v : V} {x : PyData} (h : Dp K G v x) : decide (v = .non) = isNon x := by
  cases h <;> simp [isNon]
theorem e_isN (ha : E K ta ρ I (.d x) J) (hb : E K tb ρ J (.d .none) L) : E K (tOp (fun x y H Q => y = .non ∧ Q (.bl (decide (x = .non))) H) ta tb) ρ I (.b (isNon x)) L :=
  e_op ha hb fun G H a b gh lo dx dy Q q => ⟨dv_non dy, q _ G H (Same.refl _) gh lo (by rw [non_dec dx]; exact .bl _)⟩
theorem e_notN (ha : E K ta ρ I (.d x) J) (hb : E K tb ρ J (.d .none) L) : E K (tOp (fun x y H Q => y = .non ∧ Q (.bl (!decide (x = .non))) H) ta tb) ρ I (.b (!isNon x)) L :=
  e_op ha hb fun G H a b gh lo dx dy Q q => ⟨dv_non dy, q _ G H (Same.refl _) gh lo (by rw [non_dec dx]; exact .bl _)⟩
theorem s_asgE {g : TG} (h : E K te ρ I d L) (hL : ∀ G H, ¬ L.ok G H) : S K (tAsg te g) ρ I k := fun G H σ D gh en io f => h G H σ gh en io _ fun v G1 H1 g1 gh1 j1 dv => absurd j1 (hL G1 H1)
/-- a constant of the module -/
theorem e_glob {a : Addr} (h : ∀ G, Dp K G (.ref a) x) : E K (tC (.ref a)) ρ I (.d x) I := fun G H σ gh en io Q q => q _ G H (Same.refl _) gh io (h G)
theorem dp_const {a : Addr} {xs : List V} (h : ∀ G, SqT K G a xs) (hx : ∀ G, DpAll K G xs ds) : ∀ G, Dp K G (.ref a) (.tuple ds) := fun G => .tup (h G) (hx G)
theorem const_t {a : Addr} {o : Obj} {its : Array Value} {n : Nat} {xs : List V} (hk : K.lookup a = some o) (hc : o.cls = .type "tuple") (hd : o.data = .seq its n) (hz : its.size ≤ 100) (r : Vals xs its.toList) : ∀ G, SqT K G a xs := fun G => .inr ⟨o, its, n, hk, hc, hd, Nat.le_trans hz (by decide), r⟩
end
end PL
set_option maxHeartbeats 1000000
/-! generator expressions whose elements call defs: all(..), any(..) of them -/
namespace GX
open PySem PySem.Spec PyProof.Rows L2 GenW GxR
theorem over_gl {A : Around} {elt : Expr} {gs : List Comprehension} {sc : Scope} {p : Pos} {it acc : Value} {env : Env} :
    A.over (.compLoop (.GeneratorExp elt gs sc p) 0 it acc env) [] = A.deeper env := by
  first
    | rfl
    | (obtain ⟨hd, d, fr, gs, u⟩ := A; simp [Around.over, Around.deeper, marksOver, frameCount, unitsOf, envsOf, guardsOf, pushEnvs, pushGuards, Code.envs, Code.env?, Code.isFrame, Code.guards, Code.isGuard, Code.weight, Code.frames, Code.isCreation, Code.isCaller, Code.cUnits])
/-- the frame of a generator expression within X's def: made at s with the heap H, the walked thing's own objects at fp, run at B -/
def gcx (X : Cx) (B : Around) (s : Shared) (H : Hp) (ge : Env) (fp : List Addr) : Cx where
  prog := X.prog
  w := X.w
  K := X.K
  mg := X.mg
  base := X.base
  A := B
  N := X.N
  s_0 := s
  H_0 := H
  env := ge
  outer := X.stack
  stack := ge :: X.stack
  ex := fp
  fn := fun _ => false
  calm := true
  pn := []
  xe := fun _ _ => False
/-- the environment of that frame -/
abbrev gev (X : Cx) (scope : Scope) (C : Addr) (code : Value) : Env := genEnv scope (cloFrom X.env.cells scope.names []) C code builtinsNs X.env
section
variable {X : Cx} {pins : List (Addr × Obj)} {σ : L2.St} {H : Hp} {s : Shared}
theorem start_ok {scope : Scope} {own : List (Str × Nat)} {fp : List Addr} {B : Around} {code : Value} {h' : Heap} {g' : Array GenState} {t' : Nat} {m : Str → Option Value}
    (I : Inv X pins σ H s) (ok : BlkOk X.N X.env.scope scope own) (nc : ∀ y ∈ scope.names, y.2 ≠ .cell) (hN : X.N.Nodup) (hfp : ∀ b ∈ fp, FpOk X pins H b ∧ b < s.heap.objs.size)
    (hd : B.handled = none) (hF : B.frames = some (gev X scope s.heap.objs.size code :: X.stack)) (hns : h'.Ns s.heap.objs.size m)
    (kp : ∀ b o, s.heap.get? b = some o → h'.get? b = some o) (hg : AllBare g') :
    Inv (gcx X B s H (gev X scope s.heap.objs.size code) fp) [] (wipe σ (own.map (·.2))) H { s with heap := h', gens := g', toks := t' } := by
  have fr : ∀ y ∈ scope.names, y.2 = .free → ∃ c, X.env.cells.lookup y.1 = some c := fun y hy e => (ok.free y hy e).elim (fun k => I.ok.has _ (.inl k)) fun k => I.ok.has _ (.inr k)
  have cm : ∀ {y : Str} {c : Addr}, (y, c) ∈ cloFrom X.env.cells scope.names [] → X.env.cells.lookup y = some c ∧ c < s.heap.objs.size := by
    intro y c hm
    rcases cloFrom_mem hm with z | ⟨z, rfl⟩
    · cases z
    · obtain ⟨c, hc⟩ := fr _ z rfl
      obtain ⟨w, k⟩ := I.cell _ _ hc
      rw [hc]
      exact ⟨rfl, k.lt⟩
  have cl : ∀ {y : Str} {c : Addr}, (gev X scope s.heap.objs.size code).cells.lookup y = some c → X.env.cells.lookup y = some c ∧ c < s.heap.objs.size := fun e => cm (PySem.mem_of_lookup e)
  have kd : ∀ {y : Str} {k : NameKind}, (gev X scope s.heap.objs.size code).kindOf y = some k → (y, k) ∈ scope.names := fun e => PySem.mem_of_lookup e
  have kcell : ∀ {y : Str}, (gev X scope s.heap.objs.size code).kindOf y ≠ some .cell := fun {y} e => nc _ (kd e) rfl
  have has : ∀ {y : Str}, (gev X scope s.heap.objs.size code).kindOf y = some .free → ∃ c, (gev X scope s.heap.objs.size code).cells.lookup y = some c := fun {y} e => mem_lookup (cloFrom_has (cells := X.env.cells) (acc := []) (kd e))
  have okG : (gcx X B s H (gev X scope s.heap.objs.size code) fp).Ok := {
    mod := I.ok.mod
    kind := ok.kind
    glob := I.ok.glob
    blt := rfl
    above := Nat.le_refl _
    inj := fun y z c e1 e2 => I.ok.inj y z c (cl e1).1 (cl e2).1
    has := fun y hy => hy.elim (fun k => (kcell k).elim) fun k => has k
    cab := fun y c z _ => by cases (show false = true from z)
    hd := fun _ => hd
    frames := hF
    stk := .inr ⟨rfl, rfl⟩
    exf := fun b hb => ⟨Nat.ne_of_lt (hfp b hb).2, fun y c e z => (hfp b hb).1.2.2.2.2.1 y c (cl e).1 z⟩
    bs := I.bs
    bsz := Nat.le_trans I.ok.bsz I.sz
    noex := fun b o e hb => by
      rcases (hfp b hb).1.2.2.2.1 with z | z
      · exact I.ok.noex b o e z
      · exact Nat.lt_irrefl _ (Nat.lt_of_lt_of_le (Heap.lt_size e) (Nat.le_trans I.ok.bsz z))
    exfs := fun b hb z => (List.mem_cons.mp (I.stkSub b z)).elim (hfp b hb).1.2.1 (hfp b hb).1.2.2.1
    funs := I.stack
    frf := I.stkFree }
  refine {
    ok := okG
    os := rfl
    bare := hg
    base := Un.kept kp
    loc := ⟨m, hns, fun i y v e1 e2 e3 => ?_⟩
    cell := fun y c e => (I.cell y c (cl e).1).imp fun w k => k.keeps kp
    free := I.hok.fresh (Nat.le_refl _)
    freeC := fun y c e => I.freeC y c (cl e).1
    pin := fun p hp => absurd (show p ∈ ([] : List (Addr × Obj)) ++ [] from hp) (by simp)
    hok := I.hok.kept kp
    len := (wipe_length _ _).trans I.len }
  obtain ⟨e2, hne⟩ := wipe_some e2
  have nown : ¬ ((y, NameKind.local) ∈ scope.names) := fun hy => by
    rcases ok.own _ hy (.inl rfl) with z | z
    · obtain ⟨p, hp, hpy⟩ := List.mem_map.mp z
      have e4 := ok.ix p hp
      rw [show p.1 = y from hpy] at e4
      exact hne (List.mem_map.mpr ⟨p, hp, nodup_ix hN e4 e1⟩)
    · exact z (List.mem_of_getElem? e1)
  have hv : (gev X scope s.heap.objs.size code).kindOf y = some .free := by
    rcases e3 with k | k | k
    · exact (nown (kd k)).elim
    · exact (kcell k).elim
    · exact k
  obtain ⟨m0, _, hl⟩ := I.loc
  have hvX : Vis X.env.scope y := (ok.free _ (kd hv) rfl).elim (fun k => .inr (.inl k)) fun k => .inr (.inr k)
  obtain ⟨u, r, q⟩ := hl i y v e1 e2 hvX
  obtain ⟨c, hc⟩ := has hv
  refine ⟨u, r, .inr ⟨.inr hv, c, hc, ?_⟩⟩
  rcases q with ⟨k, _⟩ | ⟨_, c', e', z⟩
  · have k' : X.env.scope.names.lookup y = some .local := k
    rcases ok.free _ (kd hv) rfl with z | z <;> rw [show X.env.scope.names.lookup y = _ from z] at k' <;> cases k'
  · rw [(cl hc).1] at e'
    cases e'
    exact z.keeps kp
/-- other generators, other tokens: the heap is what counts -/
theorem inv_heap {s' : Shared} (I : Inv X pins σ H s) (hh : s'.heap = s.heap) (ho : s'.os = s.os) (hg : AllBare s'.gens) : Inv X pins σ H s' :=
  { ok := I.ok, os := ho.trans I.os, bare := hg, base := by rw [hh]; exact I.base, loc := by rw [hh]; exact I.loc, cell := by rw [hh]; exact I.cell, free := I.free, freeC := I.freeC, pin := by rw [hh]; exact I.pin, hok := by rw [hh]; exact I.hok, len := I.len }
end
/-! ### the walk within the generator -/
/-- what is told of the elements: the word W by turn and measure; a test that is pol goes on, any other ends it -/
structure Word (J : It) (g : TG) (tt : TT) (te : TE) (vs : List Nat) (τ : L2.St) (pol : Bool) (Dn Et : Hp → Prop) (W : Nat → Nat → Hp → Prop) : Prop where
  turn : ∀ i m H, W i m H → (J.stop i H ∧ Dn H) ∨ (J.go i H ∧ ∃ Nx : Hp → Prop, (∀ H', Nx H' → ∃ m', m' < m ∧ W (i + 1) m' H') ∧ ∀ x H', J.yld i H x H' → g x τ H' fun σ2 H2 => wipe σ2 vs = τ ∧ tt σ2 H2 fun b H3 =>
    if b = true then te σ2 H3 fun y H4 => ∃ r : Bool, y = .bl r ∧ (if r = pol then Nx H4 else Et H4) else Nx H3)
/-- it has come to its end -/
def EndR (X : Cx) (pins : List (Addr × Obj)) (τ : L2.St) (Dn : Hp → Prop) : GenEnd := fun _ _ r s => r = .ok .next ∧ ∃ H, Inv X pins τ H s ∧ Dn H
/-- it hands out a test; woken again where the test is pol -/
def OutY (X : Cx) (pins : List (Addr × Obj)) (τ : L2.St) (pol : Bool) (Et : Hp → Prop) : Protocol := fun _ _ v s kap =>
  ∃ (r : Bool) (H : Hp), v = .bool r ∧ Inv X pins τ H s ∧ ((r ≠ pol ∧ Et H) ∨ (r = pol ∧ ∀ s' : Shared, s'.heap = s.heap → s'.os = s.os → AllBare s'.gens → kap (.send .none) s'))
section
variable {X : Cx} {A : Around} {elt tg iter : Expr} {ifs : List Expr} {scope : Scope} {pos : Pos} {it : Addr} {J : It} {fp : List Addr} {tn : Nat → Heap → Prop} {g : TG} {tt : TT} {te : TE} {vs : List Nat} {τ : L2.St} {pol : Bool} {Dn Et : Hp → Prop} {W : Nat → Nat → Hp → Prop} {pins : List (Addr × Obj)}
theorem walk_seg (hov : A.over (.compLoop (.GeneratorExp elt [⟨tg, iter, ifs, 0⟩] scope pos) 0 (.ref it) .none X.env) [] = X.A) (hxe : X.xe = fun _ _ => False) (hco : X.env.scope.isCoroutine = false) (hc : X.calm = true)
    (T : Turn X.prog X.w X.K tg J fp it tn) (hfp : ∀ b ∈ fp, b ≠ X.env.locals ∧ b ∉ X.fs ∧ (b ∈ X.ex ∨ X.s_0.heap.objs.size ≤ b) ∧ (∀ x c, X.env.cells.lookup x = some c → c ≠ b) ∧ ∀ p ∈ X.pn ++ pins, p.1 ≠ b)
    (pg : PG X tg g) (pt : PTs X ifs tt) (pe : PE X elt te) (hl : ∀ σ : L2.St, wipe σ vs = τ → σ.length = τ.length ∧ ∀ (j : Nat) v, τ[j]? = some (some v) → σ[j]? = some (some v)) (V : Word J g tt te vs τ pol Dn Et W) :
    ∀ (m n i : Nat) (s₀ s : Shared) (H : Hp), m < n → Inv X pins τ H s → tn i s.heap → (∀ b ∈ fp, H b = none) → W i m H →
      Seg (model X.prog X.w) A (EndR X pins τ Dn) (OutY X pins τ pol Et) n s₀ (.compLoop (.GeneratorExp elt [⟨tg, iter, ifs, 0⟩] scope pos) 0 (.ref it) .none X.env)
        ((model X.prog X.w).den (.compLoop (.GeneratorExp elt [⟨tg, iter, ifs, 0⟩] scope pos) 0 (.ref it) .none X.env)) [] s := by
  intro m
  induction m using Nat.strongRecOn with
  | ind m ih =>
    intro n i s₀ s H hmn I st fr w
    have stat : ∀ {H' : Hp}, (∀ b ∈ fp, H' b = none) → ∀ b ∈ fp, FpOk X pins H' b := fun hn b hb => ⟨hn b hb, (hfp b hb).1, (hfp b hb).2.1, (hfp b hb).2.2.1, (hfp b hb).2.2.2.1, (hfp b hb).2.2.2.2⟩
    have nof : ∀ x s', X.xe x s' → False := fun x s' z => by
      rw [hxe] at z
      exact z
    show Seg _ A _ _ _ s₀ _ ((compTurn (.GeneratorExp elt [⟨tg, iter, ifs, 0⟩] scope pos) 0 (.ref it) .none X.env).onRaise (leaving X.env)) [] s
    rw [compTurn_gen, Sem.onRaise_eq_wrap]
    refine seg_bind_wrap (wpAny_standAt ?_)
    refine seg_bind_wrap ?_
    rw [hov]
    rcases V.turn i m H w with ⟨stop, dn⟩ | ⟨go, Nx, hNx, step⟩
    · refine thn (T.done X rfl rfl rfl hc i pins s τ H _ I (stat fr) st stop) fun r s1 ⟨hr, I1⟩ => ?_
      subst hr
      exact seg_end (.ok .next) ⟨rfl, H, I1, dn⟩
    · refine thn (T.item X rfl rfl rfl hc i pins s τ H _ I (stat fr) st go) fun r s1 ⟨u, hr, h1⟩ => ?_
      subst hr
      refine seg_bind_wrap ?_
      rw [hov]
      refine wpAny_mono h1 (fun _ s2 ⟨x, H2, I2, r2, y2, st2, fr2⟩ => ?_) fun _ _ e => e
      have J2 := I2.pinned (stat fr2) (T.obj _ _ st2)
      -- what stays of the walked thing's objects while the element runs
      have back : ∀ {s' : Shared} {σ' : L2.St} {H' : Hp}, Inv X (pins ++ pinsAt fp s2.heap) σ' H' s' → wipe σ' vs = τ → Inv X pins τ H' s' ∧ tn (i + 1) s'.heap ∧ ∀ b ∈ fp, H' b = none := fun {s' σ' H'} K hw => by
        have kept : ∀ b ∈ fp, ∀ o, s2.heap.get? b = some o → s'.heap.get? b = some o ∧ H' b = none := fun b hb o e =>
          ⟨(K.pin (b, o) (List.mem_append_right _ (List.mem_append_right _ (mem_pinsAt hb e)))).1, (K.pin (b, o) (List.mem_append_right _ (List.mem_append_right _ (mem_pinsAt hb e)))).2.1⟩
        refine ⟨K.unpinned.weak (hl σ' hw).1.symm (hl σ' hw).2, T.keep _ _ _ st2 fun b hb o e => (kept b hb o e).1, fun b hb => ?_⟩
        obtain ⟨o, e, _⟩ := T.obj _ _ st2 b hb
        exact (kept b hb o e).2
      refine seg_bind_wrap ?_
      rw [hov]
      refine wpAny_mono (pg.run _ s2 τ H2 x u _ J2 r2 (step x H2 y2)) (fun _ s3 ⟨σ3, H3, I3, hw, q3⟩ => ?_) fun x s' z => (nof x s' z).elim
      refine seg_bind_wrap ?_
      rw [hov]
      refine wpAny_mono (pt.run _ s3 σ3 H3 _ I3 q3) (fun b s4 ⟨H4, I4, q4⟩ => ?_) fun x s' z => (nof x s' z).elim
      cases b with
      | false =>
        obtain ⟨I5, st5, fr5⟩ := back I4 hw
        obtain ⟨m', hm, w'⟩ := hNx H4 q4
        simp only [Bool.false_eq_true, if_false]
        exact seg_again rfl (ih m' hm n (i + 1) s₀ s4 H4 (by omega) I5 st5 fr5 w')
      | true =>
        simp only [if_true]
        have hy : ∀ v, yieldOut X.env v = yieldValue v := fun v => by
          unfold yieldOut
          rw [hco]
          rfl
        simp only [hy]
        rw [Sem.bind_eq_wrap', Sem.bind_eq_wrap', Sem.wrap_wrap, Sem.wrap_wrap]
        refine seg_wrap ?_
        rw [hov]
        refine wpAny_mono (pe.run _ s4 σ3 H4 _ I4 q4) (fun v s5 ⟨y, H5, I5, rv, r, ey, q5⟩ => ?_) fun x s' z => (nof x s' z).elim
        subst ey
        have ev : v = .bool r := rv
        obtain ⟨I6, st6, fr6⟩ := back I5 hw
        obtain ⟨n', rfl⟩ : ∃ n', n = n' + 1 := ⟨n - 1, by omega⟩
        refine seg_at (seg_yield rfl rfl rfl ⟨r, H5, ev, I6, ?_⟩)
        by_cases hr : r = pol
        · rw [if_pos hr] at q5
          refine .inr ⟨hr, fun s' hh ho hg => ?_⟩
          obtain ⟨m', hm, w'⟩ := hNx H5 q5
          exact seg_again rfl (ih m' hm n' (i + 1) s' s' H5 (by omega) (inv_heap I6 hh ho hg) (by rw [hh]; exact st6) fr6 w')
        · rw [if_neg hr] at q5
          exact .inl ⟨hr, q5⟩
theorem walk_from (hov : A.over (.compLoop (.GeneratorExp elt [⟨tg, iter, ifs, 0⟩] scope pos) 0 (.ref it) .none X.env) [] = X.A) (hxe : X.xe = fun _ _ => False) (hco : X.env.scope.isCoroutine = false) (hc : X.calm = true)
    (T : Turn X.prog X.w X.K tg J fp it tn) (hfp : ∀ b ∈ fp, b ≠ X.env.locals ∧ b ∉ X.fs ∧ (b ∈ X.ex ∨ X.s_0.heap.objs.size ≤ b) ∧ (∀ x c, X.env.cells.lookup x = some c → c ≠ b) ∧ ∀ p ∈ X.pn ++ pins, p.1 ≠ b)
    (pg : PG X tg g) (pt : PTs X ifs tt) (pe : PE X elt te) (hl : ∀ σ : L2.St, wipe σ vs = τ → σ.length = τ.length ∧ ∀ (j : Nat) v, τ[j]? = some (some v) → σ[j]? = some (some v)) (V : Word J g tt te vs τ pol Dn Et W)
    {m n : Nat} {s₀ s : Shared} {H : Hp} (hmn : m < n) (I : Inv X pins τ H s) (st : tn 0 s.heap) (fr : ∀ b ∈ fp, H b = none) (w : W 0 m H) :
      Seg (model X.prog X.w) A (EndR X pins τ Dn) (OutY X pins τ pol Et) n s₀ (.compStart (.GeneratorExp elt [⟨tg, iter, ifs, 0⟩] scope pos) 0 (.ref it) .none X.env)
        ((model X.prog X.w).den (.compStart (.GeneratorExp elt [⟨tg, iter, ifs, 0⟩] scope pos) 0 (.ref it) .none X.env)) [] s := by
  have go := walk_seg hov hxe hco hc T hfp pg pt pe hl V m n 0 s₀ s H hmn I st fr w
  show Seg _ A _ _ _ s₀ _ ((compStart (.GeneratorExp elt [⟨tg, iter, ifs, 0⟩] scope pos) 0 (.ref it) .none X.env).onRaise (leaving X.env)) [] s
  unfold compStart
  rw [Sem.onRaise_eq_wrap]
  show Seg _ A _ _ _ s₀ _ ((ask >>= _).wrap _ _ _ _) [] s
  refine seg_bind_wrap (wpAny_askSetting ?_)
  split
  · exact seg_again rfl go
  · refine seg_bind_wrap (wpAny_rule ?_)
    show Seg _ A _ _ _ s₀ _ ((standAt iter.pos >>= _).wrap _ _ _ _) [] s
    exact seg_bind_wrap (wpAny_standAt (seg_bind_wrap (T.self _ 0 s _ _ st (seg_again rfl go))))
/-! ### the consumers -/
/-- the generator at a may be woken: Seg's number n -/
def Awake (X : Cx) (B : Around) (a : Addr) (go : Obj) (gn : Nat) (τ : L2.St) (pol : Bool) (Dn Et : Hp → Prop) (n : Nat) (s : Shared) : Prop :=
  ∃ gs, s.gens[gn]? = some gs ∧ (∃ H, Inv X [(a, go)] τ H s) ∧ gs.Goes (model X.prog X.w) B (EndR X [(a, go)] τ Dn) (OutY X [(a, go)] τ pol Et) n (.send .none) (s.setGen gn .running)
variable {B : Around} {a : Addr} {go : Obj} {gn : Nat}
/-- the next item -/
theorem next_run {Q : Option Value → Shared → Prop} {E : Value → Shared → Prop} {n : Nat} {s : Shared} (hd : B.handled = none) (hr : B.depth < recursionLimit) (hgo : ∀ h : Heap, h.get? a = some go → h.IsGen a gn)
    (h : Awake X B.in1 a go gn τ pol Dn Et n s) (hDn : ∀ s' H, Inv X [(a, go)] τ H s' → Dn H → Q none s')
    (hEt : ∀ s' H, Inv X [(a, go)] τ H s' → Et H → Q (some (.bool (!pol))) s') (hNx : ∀ s' m, n = m + 1 → Awake X B.in1 a go gn τ pol Dn Et m s' → Q (some (.bool pol)) s') :
    wpAny (model X.prog X.w) B (pyNext (.ref a)) Q E s := by
  obtain ⟨gs, hgs, ⟨H0, I0⟩, hg⟩ := h
  have hlt : gn < s.gens.size := (Array.getElem?_eq_some_iff.mp hgs).1
  have isg := hgo _ (I0.pin (a, go) (List.mem_append_right _ (List.mem_singleton.mpr rfl))).1
  refine wpAny_gsz (n := gn + 1) hlt (wpAny_pyNext_genexpQ (P := fun _ _ s1 => ∃ H, Inv X [(a, go)] τ H s1 ∧ Dn H) hd I0.nolimit hr isg hgs hg (fun v s1 gs' hb hv hsz => ?_) fun s1 hp h' hk hsz => ?_)
  · obtain ⟨r, H, rfl, I, q⟩ := hv
    have I' : Inv X [(a, go)] τ H (s1.setGen gn gs') := inv_heap I rfl rfl (allBare_setGen I.bare hb)
    rcases q with ⟨hr, he⟩ | ⟨hr, hk⟩
    · have e : r = !pol := by
        cases r <;> cases pol <;> first | rfl | exact (hr rfl).elim
      rw [e]
      exact hEt _ H I' he
    · subst hr
      have hs1 : gn < s1.gens.size := by
        have z : (s1.setGen gn gs').gens.size = s1.gens.size := setGen_size _ _ _
        have z2 : gn + 1 ≤ (s1.setGen gn gs').gens.size := hsz
        omega
      have k := hk ((s1.setGen gn gs').setGen gn .running) rfl rfl (allBare_setGen I'.bare rfl)
      cases n with
      | zero => exact False.elim k
      | succ m => exact hNx _ m rfl ⟨gs', setGen_at hs1, ⟨H, I'⟩, k⟩
  · obtain ⟨H, I, dn⟩ := hp
    exact hDn _ H (Inv.kept (t' := s1.toks) (inv_heap (s' := s1.setGen gn .finished) I rfl rfl (allBare_setGen I.bare rfl)) hk) dn
theorem all_run {R : Result → Shared → Prop} (hd : B.handled = none) (hr : B.depth < recursionLimit) (hgo : ∀ h : Heap, h.get? a = some go → h.IsGen a gn)
    (hDn : ∀ s' H, Inv X [(a, go)] τ H s' → Dn H → R (.ok (.ret (.bool true))) s') (hEt : ∀ s' H, Inv X [(a, go)] τ H s' → Et H → R (.ok (.ret (.bool false))) s') :
    ∀ (n : Nat) (s : Shared), Awake X B.in1.in1 a go gn τ true Dn Et n s → codeAny (model X.prog X.w) B (.builtin "all.loop" ⟨[.ref a], []⟩) R s := by
  intro n
  induction n with
  | zero =>
    intro s h
    refine codeAny_builtin F.entry_all_loop ?_
    rw [Around.under_plainId F.plain_all_loop _]
    show wpAny _ B.in1 (pyNext (.ref a) >>= _) _ _ s
    refine wpAny_bind (next_run hd hr hgo h (fun s1 H I dn => wpAny_bind (wpAny_rule (wpAny_pure (hDn s1 H I dn)))) (fun s1 H I et => ?_) fun s1 m e _ => by cases e)
    refine wpAny_bind (wpAny_holding (wpAny_truthy_bool (wpAny_bind (wpAny_letGo ?_))))
    exact wpAny_bind (wpAny_rule (wpAny_pure (hEt s1 H I et)))
  | succ n ih =>
    intro s h
    refine codeAny_builtin F.entry_all_loop ?_
    rw [Around.under_plainId F.plain_all_loop _]
    show wpAny _ B.in1 (pyNext (.ref a) >>= _) _ _ s
    refine wpAny_bind (next_run hd hr hgo h (fun s1 H I dn => wpAny_bind (wpAny_rule (wpAny_pure (hDn s1 H I dn)))) (fun s1 H I et => ?_) fun s1 m e aw => ?_)
    · refine wpAny_bind (wpAny_holding (wpAny_truthy_bool (wpAny_bind (wpAny_letGo ?_))))
      exact wpAny_bind (wpAny_rule (wpAny_pure (hEt s1 H I et)))
    · cases e
      refine wpAny_bind (wpAny_holding (wpAny_truthy_bool (wpAny_bind (wpAny_letGo ?_))))
      exact wpAny_pure ⟨plainId_quiet F.plain_all_loop _, ih s1 aw⟩
end
/-! ### the rule -/
/-- the scope of a generator expression -/
structure GSc (scope : Scope) : Prop where
  co : scope.isCoroutine = false
  nc : ∀ y ∈ scope.names, y.2 ≠ .cell
  dot : scope.names.lookup (".0" : Str) = some NameKind.local
def tGen (pol : Bool) (P : Addr) (wi : TI) (g : TG) (tt : TT) (te : TE) (vs : List Nat) : TE := fun σ H Q => wi σ H fun J H1 => TabG H1 P ∧ ∀ H2, Tabbed P H1 H2 →
  ∃ W : Nat → Nat → Hp → Prop, (∃ m, W 0 m H2) ∧ Word J g tt te vs (wipe σ vs) pol (fun H' => Q (.bl pol) H') (fun H' => Q (.bl (!pol)) H') W
/-- a generator of X's frame is ready: what its end means for X -/
def Made (X : Cx) (pins : List (Addr × Obj)) (σ : L2.St) (pol : Bool) (Q : VK) (u : Value) (s : Shared) : Prop :=
  ∃ (Y : Cx) (a : Addr) (go : Obj) (gn n : Nat) (τ : L2.St) (Dn Et : Hp → Prop), u = .ref a ∧ Y.prog = X.prog ∧ Y.w = X.w ∧ (∀ h : Heap, h.get? a = some go → h.IsGen a gn) ∧ Awake Y X.A.in1.in1 a go gn τ pol Dn Et n s ∧ s.heap.IsGen a gn ∧
    (∀ s' H', Inv Y [(a, go)] τ H' s' → Dn H' → EP X pins σ Q (.bool pol) s') ∧ ∀ s' H', Inv Y [(a, go)] τ H' s' → Et H' → EP X pins σ Q (.bool (!pol)) s'
section
variable {X : Cx} {elt tg iter : Expr} {ifs : List Expr} {scope : Scope} {own : List (Str × Nat)} {gpos : Pos} {wi : TI} {g : TG} {tt : TT} {te : TE} {pol : Bool} {c P : Addr} {k : Nat}
theorem gen_core {pins : List (Addr × Obj)} {σ : L2.St} {H : Hp} {s : Shared} {Q : VK} (hr : Room (k + 1) X.A) (TB : TabB X.base X.mg c P) (hcode : X.env.code = .ref c) (ok : BlkOk X.N X.env.scope scope own) (S : GSc scope) (hN : X.N.Nodup) (hi : PI X tg iter wi)
    (hpg : ∀ B s H C code fp, Room k B → PG (gcx X B s H (gev X scope C code) fp) tg g) (hpt : ∀ B s H C code fp, Room k B → PTs (gcx X B s H (gev X scope C code) fp) ifs tt) (hpe : ∀ B s H C code fp, Room k B → PE (gcx X B s H (gev X scope C code) fp) elt te)
    (hs : ∀ v, genFold iter X.env v = pure v) (I : Inv X pins σ H s) (h : tGen pol P wi g tt te (own.map (·.2)) σ H Q) :
    wpAny (model X.prog X.w) X.A (eval (.GeneratorExp elt [⟨tg, iter, ifs, 0⟩] scope gpos) X.env) (Made X pins σ pol Q) X.xe s := by
  have fr : ∀ y ∈ scope.names, y.2 = .free → ∃ c, X.env.cells.lookup y.1 = some c := fun y hy e => (ok.free y hy e).elim (fun k => I.ok.has _ (.inl k)) fun k => I.ok.has _ (.inr k)
  refine wpAny_GeneratorExp_make S.co (closure_ok fr) S.nc S.dot ok.kind (by have := hr.dp; omega) ?_ hs
  refine thn (hi.run pins s σ H _ I h) fun v s1 h1 => thn h1 fun itv s2 h2 => ?_
  obtain ⟨it, fp, tn, J, H1, e, I1, T, st, f1, ⟨ps, hP, htri⟩, q⟩ := h2
  subst e
  refine ⟨I1.nolimit, ?_⟩
  have gP : s2.heap.get? P = some { cls := .none, data := .fields ps } := I1.hok P _ hP
  have hcd : PySem.W.CodeHd s2.heap c P := TB.code.keeps fun b u e => I1.bk b u e
  have key : ∀ (code : Value) (h3 : Heap) (tk : Nat) (more : Array Value), Heap.ExtBut P s2.heap h3 → s2.heap.objs.size ≤ h3.objs.size → h3.get? P = some { cls := .none, data := .fields (ps ++ more) } → TriplesOk (ps ++ more).toList →
      wpAny (model X.prog X.w) X.A (builtinsFor X.env.globals X.env.builtins) (fun bi s₄ =>
        ∀ h', h'.Ns s₄.heap.objs.size (fun y => if y = ".0" then some (.ref it) else none) → Heap.SameBut s₄.heap.objs.size (s₄.heap.push { cls := .type "frame", data := .dict #[] }) h' →
          Made X pins σ pol Q (.ref h'.objs.size) { s₄ with
            gens := s₄.gens.push (.fresh (.compStart (.GeneratorExp elt [⟨tg, iter, ifs, 0⟩] scope gpos) 0 (.ref it) .none (genEnv scope (cloFrom X.env.cells scope.names []) s₄.heap.objs.size code bi X.env))),
            toks := s₄.toks + 1 + 1 + 1,
            heap := h'.push { cls := .type "generator", data := .fields #[.int s₄.gens.size 0, .str "<genexpr>" (s₄.toks + 1), .str (X.env.qual ++ "<genexpr>") (s₄.toks + 1 + 1)] } }) X.xe { s2 with heap := h3, toks := tk } := by
    intro code h3 tk more hx hsz hP3 htri3
    obtain ⟨bm, ob, e1, e2, e3, e4, e5, e6, e7, e8⟩ := TB.bm
    have kp3 : ∀ b u, b ≠ P → s2.heap.get? b = some u → h3.get? b = some u := fun b u hb e => hx b u hb e
    refine wpAny_builtinsFor (m := X.mg) (by rw [I1.ok.glob]; exact (I1.mod.glob.keeps I1.bk).extBut hx TB.gP) e1 e2 (kp3 _ _ e4 (I1.bk _ _ e5)) e6 e7 e8 ?_
    intro h' hns hsb
    -- behind the code object, ahead of the frame
    have I3 : Inv X pins σ (upd H1 P (.tbl (ps ++ more))) { s2 with heap := h3, toks := tk } := inv_tab (g' := s2.gens) (d' := s2.drawn) I1 hP kp3 hP3 I1.bare
    have fnP : ∀ b ∈ fp, b ≠ P := fun b hb z => by
      have := (f1 b hb).1
      rw [z, hP] at this
      cases this
    have st3 : tn 0 h3 := T.keep _ _ _ st fun b hb o e => kp3 b o (fnP b hb) e
    have f3 : ∀ b ∈ fp, FpOk X pins (upd H1 P (.tbl (ps ++ more))) b ∧ b < h3.objs.size := fun b hb => by
      obtain ⟨o, e, _⟩ := T.obj _ _ st3 b hb
      exact ⟨⟨by rw [upd_ne (fnP b hb)]; exact (f1 b hb).1, (f1 b hb).2⟩, Heap.lt_size e⟩
    obtain ⟨W, ⟨m0, w0⟩, V⟩ := q (upd H1 P (.tbl (ps ++ more))) ⟨⟨ps ++ more, upd_same, htri3⟩, fun b hb => upd_ne hb⟩
    have sz' : h'.objs.size = h3.objs.size + 1 := by rw [hsb.1, Heap.size_push]
    have kp' : ∀ b o, h3.get? b = some o → h'.get? b = some o := fun b o e => hsb.extBut b o (Nat.ne_of_lt (Heap.lt_size e)) (Heap.get?_push_of_some _ e)
    generalize hgo : ({ cls := .type "generator", data := .fields #[.int s2.gens.size 0, .str "<genexpr>" (tk + 1), .str (X.env.qual ++ "<genexpr>") (tk + 1 + 1)] } : Obj) = go
    have isG : ∀ h : Heap, h.get? h'.objs.size = some go → h.IsGen h'.objs.size s2.gens.size := fun h e => ⟨go, _, _, e, by rw [← hgo], by rw [← hgo], by rw [← hgo]⟩
    have hB : Room k (X.A.in1.in1.deeper (gev X scope h3.objs.size code)) := ⟨hr.hd, by have := hr.dp; show X.A.depth + 1 + 3 * k + 5 < _; omega, by have := hr.un; show X.A.units + 1 + 1 + 3 + 16 * k + 200 < _; omega⟩
    have hF : (X.A.in1.in1.deeper (gev X scope h3.objs.size code)).frames = some (gev X scope h3.objs.size code :: X.stack) := Around.frames_deeper (by exact I1.ok.frames)
    have g5 : AllBare (s2.gens.push (.fresh (.compStart (.GeneratorExp elt [⟨tg, iter, ifs, 0⟩] scope gpos) 0 (.ref it) .none (gev X scope h3.objs.size code)))) := I1.bare.push rfl
    have Y0 := start_ok (t' := tk + 1 + 1 + 1) I3 ok S.nc hN f3 hB.hd hF hns kp' g5
    have gY := Heap.get?_push_size h' (o := go) (by rw [← hgo]; rfl)
    have Y1 := (Inv.kept (t' := tk + 1 + 1 + 1) (h' := h'.push go) Y0 fun b o e => Heap.get?_push_of_some _ e)
    have Y2 := Y1.pins_of (pins' := [(h'.objs.size, go)]) fun p hp => by
      rw [List.mem_singleton.mp hp]
      exact ⟨gY, Y0.hok.fresh (Nat.le_refl _), Nat.ne_of_gt Y0.lt, Y0.nofs (Nat.le_refl _), fun v z => by rw [← hgo] at z; cases z⟩
    have back : ∀ s' H', Inv (gcx X (X.A.in1.in1.deeper (gev X scope h3.objs.size code)) { s2 with heap := h3, toks := tk } (upd H1 P (.tbl (ps ++ more))) (gev X scope h3.objs.size code) fp) [(h'.objs.size, go)] (wipe σ (own.map (·.2))) H' s' → Inv X pins σ H' s' := fun s' H' K =>
      I3.call' (ch := fp) K.os K.base K.hok K.bare fun b hb => ⟨(f3 b hb).1.2.2.2.1, (f3 b hb).1.2.1, (f3 b hb).1.2.2.2.2.1, (f3 b hb).1.2.2.2.2.2⟩
    refine ⟨gcx X (X.A.in1.in1.deeper (gev X scope h3.objs.size code)) { s2 with heap := h3, toks := tk } (upd H1 P (.tbl (ps ++ more))) (gev X scope h3.objs.size code) fp, h'.objs.size, go, s2.gens.size, m0 + 1, wipe σ (own.map (·.2)), _, _, rfl, rfl, rfl, isG, ⟨.fresh (.compStart (.GeneratorExp elt [⟨tg, iter, ifs, 0⟩] scope gpos) 0 (.ref it) .none (gev X scope h3.objs.size code)), ?_, ⟨_, Y2⟩, rfl, ?_⟩, isG _ gY, fun s' H' K dn => ⟨.bl pol, H', back s' H' K, rfl, dn⟩, fun s' H' K et => ⟨.bl (!pol), H', back s' H' K, rfl, et⟩⟩
    · exact Array.getElem?_push_size ..
    · refine walk_from (X := gcx X (X.A.in1.in1.deeper (gev X scope h3.objs.size code)) { s2 with heap := h3, toks := tk } (upd H1 P (.tbl (ps ++ more))) (gev X scope h3.objs.size code) fp) over_gl rfl S.co rfl T (fun b hb => ⟨(Y0.ok.exf b hb).1, Y0.ok.exfs b hb, .inl hb, (Y0.ok.exf b hb).2, fun p hp => ?_⟩) (hpg _ _ _ _ _ _ hB) (hpt _ _ _ _ _ _ hB) (hpe _ _ _ _ _ _ hB) (fun σ' hw => ?_) V (Nat.lt_succ_self m0) (inv_heap Y2 rfl rfl (allBare_setGen (x := .running) Y2.bare rfl)) ?_ (fun b hb => (f3 b hb).1.1) w0
      · have e : p = (h'.objs.size, go) := by simpa [gcx] using hp
        rw [e]
        exact Nat.ne_of_gt (Nat.lt_trans (f3 b hb).2 (by omega))
      · refine ⟨by rw [← hw, wipe_length], fun j v e => ?_⟩
        rw [← hw] at e
        exact (wipe_some e).1
      · exact T.keep _ _ _ st3 fun b _ o e => Heap.get?_push_of_some _ (kp' b o e)
  cases hf : codeAmong gpos ps.toList with
  | some cv =>
    refine wpAny_genexprCode_hit hcode (hcd.code gP htri) hf ?_
    have z := key cv s2.heap s2.toks #[] (Heap.ExtBut.refl _ _) (Nat.le_refl _) (by rw [Array.append_empty]; exact gP) (by rw [Array.append_empty]; exact htri)
    exact z
  | none =>
    refine wpAny_genexprCodeX hcode (hcd.code gP htri) (hcd.tab gP) hf fun c' h3 tk hx hge hlt hco _ htab _ => ?_
    obtain ⟨o1, vs, f1, tf, fl, tg, inF, tx, tt, op, _, _, _, _, _, _, _, _, _, htr, _⟩ := hco
    exact key _ h3 tk _ hx (Nat.le_trans hge (Nat.le_of_lt hlt)) htab.2 htr
theorem pe_all {p pos : Pos} (hr : Room (k + 1) X.A) (hg : Gl X "all") (hm : X.mg "all" = none) (hb : bootBuiltins "all" = some (.builtin "all")) (TB : TabB X.base X.mg c P) (hcode : X.env.code = .ref c) (ok : BlkOk X.N X.env.scope scope own) (S : GSc scope) (hN : X.N.Nodup) (hi : PI X tg iter wi)
    (hpg : ∀ B s H C code fp, Room k B → PG (gcx X B s H (gev X scope C code) fp) tg g) (hpt : ∀ B s H C code fp, Room k B → PTs (gcx X B s H (gev X scope C code) fp) ifs tt) (hpe : ∀ B s H C code fp, Room k B → PE (gcx X B s H (gev X scope C code) fp) elt te)
    (hs : ∀ v, genFold iter X.env v = pure v)
    (he : starEach [.GeneratorExp elt [⟨tg, iter, ifs, 0⟩] scope gpos] X.env = (false, eval (.GeneratorExp elt [⟨tg, iter, ifs, 0⟩] scope gpos) X.env) :: starEach [] X.env := by rfl) :
    PE X (.Call (.Name "all" p) [.GeneratorExp elt [⟨tg, iter, ifs, 0⟩] scope gpos] [] pos) (tGen true P wi g tt te (own.map (·.2))) := by
  refine ⟨fun pins s σ H Q I h => ?_⟩
  refine wpAny_Call_Name_kw (ld_blt I hg hm hb ?_)
  refine PyProof.Rows.callWith_builtin1 ?_ he (by rfl)
  rw [he]
  show wpAny _ _ (spliced ((false, eval (.GeneratorExp elt [⟨tg, iter, ifs, 0⟩] scope gpos) X.env) :: backTo pos (starEach [] X.env))) _ _ s
  refine Calls.spliced_cons (thn (gen_core hr TB hcode ok S hN hi hpg hpt hpe hs I h) fun v s1 h1 => ?_)
  obtain ⟨Y, a, go, gn, n, τ, Dn, Et, rfl, ep, ew, isG, aw, ig, hDn, hEt⟩ := h1
  refine Calls.spliced_nil ?_
  refine call_function_tree F.kind_all F.plain_all F.entry_all (F.args_all1 _) ?_
  unfold Builtin.«all»
  refine wpAny_bind (m := oneArg "all" _) (wpAny_pure ?_)
  refine wpAny_bind (wpAny_pyIter_gen ig ?_)
  refine wpAny_pure ⟨plainId_quiet F.plain_all_loop _, ?_⟩
  rw [← ep, ← ew]
  exact all_run hr.hd (by have := hr.dp; omega) isG hDn hEt n s1 aw
end
end GX
namespace PL
open PySem PySem.Spec PyProof.Rows L2 FR GX
variable [Nm]
/-! ### targets of a generator expression: what is told of the wiped slots stays -/
theorem wipe_put {x : Option V} {i : Nat} : ∀ (vs : List Nat) (σ : List (Option V)), wipe (σ.set i x) vs = if i ∈ vs then wipe σ vs else (wipe σ vs).set i x
  | [], σ => by simp [wipe]
  | v :: vs, σ => by
    have ih := wipe_put (x := x) (i := i) vs σ
    show (wipe (σ.set i x) vs).set v none = _
    rw [ih]
    by_cases e : i = v
    · subst e
      rw [if_pos List.mem_cons_self]
      show _ = (wipe σ vs).set i none
      split
      · rfl
      · rw [List.set_set]
    · by_cases m : i ∈ vs
      · rw [if_pos m, if_pos (List.mem_cons_of_mem _ m)]
        rfl
      · rw [if_neg m, if_neg (by simp [e, m]), List.set_comm _ _ e]
        rfl
theorem wipe_in {x : Option V} {i : Nat} {vs : List Nat} {σ : List (Option V)} (h : i ∈ vs) : wipe (σ.set i x) vs = wipe σ vs := by rw [wipe_put, if_pos h]
theorem wipe_wipe (σ : List (Option V)) : ∀ vs : List Nat, wipe (wipe σ vs) vs = wipe σ vs := fun vs => by
  have key : ∀ (us : List Nat) (τ : List (Option V)), (∀ u ∈ us, u ∈ vs) → wipe (wipe τ us) vs = wipe τ vs := by
    intro us
    induction us with
    | nil => intro τ _; rfl
    | cons u us ih =>
      intro τ h
      show wipe ((wipe τ us).set u none) vs = _
      rw [wipe_in (h u List.mem_cons_self), ih τ fun w hw => h w (List.mem_cons_of_mem _ hw)]
  exact key vs σ fun _ h => h
def wipeR (ρ : Rho) : List Nat → Rho
  | [] => ρ
  | v :: vs => (wipeR ρ vs).set v none
section
variable {K : PySem.W.Frag} {ρ ρ1 ρ2 : Rho} {I J L N : Asn} {ta tb tc te : TE} {d e : Dat} {t u : TT} {b c : Bool} {ts us : TS} {k : Out} {tr : TA} {q : Addr} {ds : List PyData} {x y : PyData} {vs : List Nat}
theorem env_wipe {G : Hp} {σ : List (Option V)} (h : EnvD K G σ ρ) : ∀ vs : List Nat, EnvD K G (wipe σ vs) (wipeR ρ vs)
  | [] => h
  | v :: vs => env_none (env_wipe h vs)
def GW (K : PySem.W.Frag) (g : TG) (vs : List Nat) (x : PyData) (ρ ρ' : Rho) : Prop := ∀ G H σ v (Q : L2.St → Hp → Prop), Same G H → EnvD K G σ ρ → Dp K G v x → (∀ σ', EnvD K G σ' ρ' → wipe σ' vs = wipe σ vs → Q σ' H) → g v σ H Q
def GWs (K : PySem.W.Frag) (g : TGs) (vs : List Nat) (xs : List PyData) (ρ ρ' : Rho) : Prop := ∀ G H σ us (Q : L2.St → Hp → Prop), Same G H → EnvD K G σ ρ → DpAll K G us xs → (∀ σ', EnvD K G σ' ρ' → wipe σ' vs = wipe σ vs → Q σ' H) → g us σ H Q
theorem w_name {i : Nat} (h : i ∈ vs) : GW K (gName i) vs x ρ (ρ.set i (some (.d x))) := fun G H σ v Q gh en dv q => q _ (env_set (d := .d x) dv en) (wipe_in h)
theorem w_tup {g : TGs} {n : Nat} (hn : ds.length = n) (h : GWs K g vs ds ρ ρ1) : GW K (gTup K n g) vs (.tuple ds) ρ ρ1 := fun G H σ v Q gh en dv q => by
  cases dv with
  | tup s r => exact ⟨_, _, rfl, same_t gh s, by rw [dpa_len r, hn], h G H σ _ Q gh en r q⟩
theorem w_nil : GWs K gNil vs [] ρ ρ := fun G H σ us Q gh en dv q => by
  cases dv
  exact ⟨rfl, q σ en rfl⟩
theorem w_cons {g : TG} {gs : TGs} (h : GW K g vs x ρ ρ1) (hs : GWs K gs vs ds ρ1 ρ2) : GWs K (gCons g gs) vs (x :: ds) ρ ρ2 := fun G H σ us Q gh en dv q => by
  cases dv with
  | cons a b => exact ⟨_, _, rfl, h G H σ _ _ gh en a fun σ' en' w => hs G H σ' _ Q gh en' b fun σ2 en2 w2 => q σ2 en2 (w2.trans w)⟩
/-! ### all(..), any(..) of a generator expression -/
/-- over items (passes the tests, the element): all, any -/
def genB (pol : Bool) (ks : List (Bool × Bool)) : Bool := if pol = true then ks.all fun p => !p.1 || p.2 else ks.any fun p => p.1 && p.2
theorem gen_end {pol : Bool} {ks : List (Bool × Bool)} (h : ∀ p ∈ ks, p.1 = true → p.2 = pol) : genB pol ks = pol := by
  unfold genB
  cases pol with
  | true =>
    rw [if_pos rfl, List.all_eq_true]
    intro p hp
    cases e : p.1 with
    | false => rfl
    | true => rw [h p hp e]; rfl
  | false =>
    rw [if_neg Bool.false_ne_true, Bool.eq_false_iff]
    intro z
    rw [List.any_eq_true] at z
    obtain ⟨p, hp, z⟩ := z
    rw [Bool.and_eq_true] at z
    have := h p hp z.1
    rw [z.2] at this
    cases this
theorem gen_out {pol : Bool} {ks : List (Bool × Bool)} {p : Bool × Bool} (hp : p ∈ ks) (h1 : p.1 = true) (h2 : p.2 ≠ pol) : genB pol ks = !pol := by
  unfold genB
  cases pol with
  | true =>
    rw [if_pos rfl]
    show _ = false
    rw [Bool.eq_false_iff]
    intro z
    rw [List.all_eq_true] at z
    have := z p hp
    rw [h1] at this
    exact h2 (by simpa using this)
  | false =>
    rw [if_neg Bool.false_ne_true]
    show _ = true
    rw [List.any_eq_true]
    refine ⟨p, hp, ?_⟩
    rw [h1]
    cases e : p.2 with
    | true => rfl
    | false => exact (h2 e).elim
section
variable {g : TG} {tt : TT} {pol : Bool} {P : Addr} {ks : List (Bool × Bool)}
/-- one place of the walk -/
theorem word_of {J' : It} {n : Nat} {τ : L2.St} {Dn Et : Hp → Prop} {G1 : Hp} {xs : List V} (hks : ks.length = n) (hds : ds.length = n) (r : DpAll K G1 xs ds) (en : EnvD K G1 τ (wipeR ρ vs)) (hτ : wipe τ vs = τ)
    (hgo : ∀ i G' H, i < n → Same G1 G' → Same G' H → J'.go i H) (hst : ∀ G' H, Same G1 G' → Same G' H → J'.stop n H) (hy : ∀ i G' H x H', Same G1 G' → Same G' H → J'.yld i H x H' → H' = H ∧ xs[i]? = some x)
    (he : ∀ (i : Nat) (x : PyData) (p : Bool × Bool), ds[i]? = some x → ks[i]? = some p → ∃ ρ', GW K g vs x (wipeR ρ vs) ρ' ∧ T K tt ρ' I p.1 I ∧ (p.1 = true → E K te ρ' I (.b p.2) I))
    (hDn : ∀ G' H, Same G1 G' → Same G' H → I.ok G' H → genB pol ks = pol → Dn H) (hEt : ∀ G' H, Same G1 G' → Same G' H → I.ok G' H → genB pol ks = !pol → Et H) :
    Word J' g tt te vs τ pol Dn Et fun i m H => m = n - i ∧ i ≤ n ∧ (∃ G', Same G1 G' ∧ Same G' H ∧ I.ok G' H) ∧ ∀ p ∈ ks.take i, p.1 = true → p.2 = pol := by
  refine ⟨fun i m H ⟨hm, hi, ⟨G', a1, a2, a3⟩, hp⟩ => ?_⟩
  by_cases c : i < n
  · refine .inr ⟨hgo i G' H c a1 a2, fun H' => (∃ G2, Same G1 G2 ∧ Same G2 H' ∧ I.ok G2 H') ∧ ∀ p ∈ ks.take (i + 1), p.1 = true → p.2 = pol, fun H' z => ⟨n - (i + 1), by omega, rfl, c, z⟩, fun x H' y => ?_⟩
    obtain ⟨rfl, hx⟩ := hy i G' H x H' a1 a2 y
    have hkk : ks[i]? = some ks[i] := List.getElem?_eq_getElem (by omega)
    have hdd : ds[i]? = some ds[i] := List.getElem?_eq_getElem (by omega)
    obtain ⟨v, h1, h2⟩ := dpa_get r hdd
    rw [hx] at h1
    obtain rfl := Option.some.inj h1
    obtain ⟨ρ', hg, ht, hel⟩ := he i _ _ hdd hkk
    refine hg G' H' τ x _ a2 (env_mono a1 en) (dp_mono a1 _ _ h2) fun σ' en' hw => ⟨hw.trans hτ, ?_⟩
    refine ht G' H' σ' a2 en' a3 _ fun G2 H2 g2 gh2 j2 => ?_
    have tk : ks.take (i + 1) = ks.take i ++ [ks[i]] := by rw [List.take_add_one, hkk]; rfl
    cases e1 : ks[i].1 with
    | false =>
      rw [if_neg Bool.false_ne_true]
      refine ⟨⟨G2, a1.trans g2, gh2, j2⟩, fun p hp' hp1 => ?_⟩
      rw [tk] at hp'
      rcases List.mem_append.mp hp' with z | z
      · exact hp p z hp1
      · rw [List.mem_singleton.mp z, e1] at hp1
        cases hp1
    | true =>
      rw [if_pos rfl]
      refine hel e1 G2 H2 σ' gh2 (env_mono g2 en') j2 _ fun v G3 H3 g3 gh3 j3 dv => ⟨ks[i].2, dv_bl dv, ?_⟩
      have g13 := (a1.trans g2).trans g3
      by_cases e2 : ks[i].2 = pol
      · rw [if_pos e2]
        refine ⟨⟨G3, g13, gh3, j3⟩, fun p hp' hp1 => ?_⟩
        rw [tk] at hp'
        rcases List.mem_append.mp hp' with z | z
        · exact hp p z hp1
        · rw [List.mem_singleton.mp z]
          exact e2
      · rw [if_neg e2]
        exact hEt G3 H3 g13 gh3 j3 (gen_out (List.getElem_mem (by omega)) e1 e2)
  · have e : i = n := by omega
    subst e
    refine .inl ⟨hst G' H a1 a2, hDn G' H a1 a2 a3 (gen_end ?_)⟩
    rw [List.take_of_length_le (by omega)] at hp
    exact hp
/-- the table has grown -/
theorem tab_step {G H H2 : Hp} {T : Tbs} (hP : P ∈ T.gs) (tb : TabsIn T G H) (gh : Same G H) (z : GxR.Tabbed P H H2) : Stp NoA G H G H2 := by
  obtain ⟨⟨qs, hq, tq⟩, ho⟩ := z
  obtain ⟨ps, hp, tp⟩ := tb.1 P hP
  obtain ⟨rs, hr, _⟩ := gh P _ hp
  have st := Stp.tab (qs := qs) gh (by rw [hp]; exact fun z => by cases z) hr fun _ => tq
  have e : upd H P (.tbl qs) = H2 := by
    funext b
    by_cases h : b = P
    · rw [h, upd_same, hq]
    · rw [upd_ne h, ho b h]
  rw [e] at st
  exact st
theorem tabG_of {G H : Hp} {T : Tbs} (hP : P ∈ T.gs) (tb : TabsIn T G H) (gh : Same G H) : GxR.TabG H P := by
  obtain ⟨ps, hp, tp⟩ := tb.1 P hP
  obtain ⟨rs, hr, t⟩ := gh P _ hp
  exact ⟨rs, hr, t tp⟩
theorem e_genT {tl : TE} {T' : Tbs} [hT : HasT T' I] (hP : P ∈ T'.gs) (hl : E K tl ρ I (.t ds) I) (hks : ks.length = ds.length)
    (he : ∀ (i : Nat) (x : PyData) (p : Bool × Bool), ds[i]? = some x → ks[i]? = some p → ∃ ρ', GW K g vs x (wipeR ρ vs) ρ' ∧ T K tt ρ' I p.1 I ∧ (p.1 = true → E K te ρ' I (.b p.2) I)) :
    E K (tGen pol P (iTup K tl) g tt te vs) ρ I (.b (genB pol ks)) I := fun G H σ gh en io Q q => hl G H σ gh en io _ fun v G1 H1 g1 gh1 j1 dv => by
  cases dv with
  | tup s r =>
    rename_i a xs
    refine ⟨a, rfl, ⟨_, same_t gh1 s⟩, tabG_of hP (hT.get _ _ j1) gh1, fun H2 z => ?_⟩
    have st := tab_step hP (hT.get _ _ j1) gh1 z
    refine ⟨_, ⟨ds.length, rfl, Nat.zero_le _, ⟨G1, Same.refl _, st.gh, Asn.pure_st st j1⟩, fun p hp => by simp at hp⟩, word_of hks rfl r (env_wipe (env_mono g1 en) vs) (wipe_wipe σ vs) (fun i G' H' hi b1 b2 => ?_) (fun G' H' b1 b2 => ⟨xs, same_t (b1.trans b2) s, Nat.le_of_eq (dpa_len r)⟩) (fun i G' H' x H'' b1 b2 y => ⟨y.1, y.2 xs (same_t (b1.trans b2) s)⟩) he (fun G' H' b1 b2 b3 e => ?_) (fun G' H' b1 b2 b3 e => ?_)⟩
    · have hx : i < xs.length := by rw [dpa_len r]; exact hi
      exact ⟨xs, xs[i], same_t (b1.trans b2) s, List.getElem?_eq_getElem hx⟩
    · exact q _ G' H' (g1.trans b1) b2 b3 (by rw [e]; exact .bl pol)
    · exact q _ G' H' (g1.trans b1) b2 b3 (by rw [e]; exact .bl (!pol))
theorem t_yes : T K tYes ρ I true I := fun G H σ gh en io Q q => q G H (Same.refl _) gh io
end
end
/-! ### defs with a table -/
structure FunC (K : PySem.W.Frag) (x qual : Str) (st : Stmt) (f : Addr) (fd : FuncData) (c : Addr) : Prop where
  ex : ∃ (oc : Value) (od : Option Addr) (kV doc pm : Value) (an : Option Addr) (ct : Value) (osl : Array (Option Value)),
    fd = PySem.W.fnOf x qual (defArgs st) (defBody st) (defScope st) .none kV doc pm an (.ref c) ct ∧ K.lookup f = some ⟨oc, od, .func fd, osl⟩ ∧ PySem.W.codeIn K (.ref c) qual = true
  kp : PySem.W.keepIn K (.ref f) = true
section
variable {P : Program} {w : World} {K : PySem.W.Frag} {mg : Str → Option Value} {base : Heap}
theorem FunC.of {x qual : Str} {st : Stmt} {f c : Addr} {fd : FuncData} (F : FunC K x qual st f fd c) : Fun K x qual st f fd := by
  obtain ⟨oc, od, kV, doc, pm, an, ct, osl, e, l, k⟩ := F.ex
  exact ⟨⟨oc, od, kV, doc, pm, an, _, ct, osl, e, l, k⟩, F.kp⟩
theorem FunC.okC {CX : CXT} {x qual : Str} {st : Stmt} {f c : Addr} {fd : FuncData} {N ps : List Str} {k : Nat} {sp : Sp} (F : FunC K x qual st f fd c) (S : FnScope N ps (defScope st)) (len : ∀ vs H Q E, sp vs H Q E → vs.length = ps.length)
    (hbody : ∀ (A : Around) (outer : List Env) (s : Shared) (H : Hp) (vs : List V) (Q : VK) (E : XK), Room k (A.deeper (envOfC qual (defScope st) s.heap.objs.size f (.ref c))) → sp vs H Q E →
      ∃ t, PSs (cxOf CX P w K mg base N qual (defScope st) f (.ref c) A outer s H E) (defBody st) t ∧ t { nx := fun _ H' => Q .non H', rt := Q } (L2.start N vs) H) : FnOk P w K mg base CX (k + 1) f fd ps sp := by
  obtain ⟨oc, od, kV, doc, pm, an, ct, osl, rfl, lk, hcd⟩ := F.ex
  exact fn_of lk hcd S len fun A outer s H vs Q E hr hsp => hbody A outer s H vs Q E hr hsp
theorem FunC.ok {x qual : Str} {st : Stmt} {f c : Addr} {fd : FuncData} {N ps : List Str} {k : Nat} {sp : Sp} (F : FunC K x qual st f fd c) (S : FnScope N ps (defScope st)) (len : ∀ vs H Q E, sp vs H Q E → vs.length = ps.length)
    (hbody : ∀ (A : Around) (outer : List Env) (s : Shared) (H : Hp) (vs : List V) (Q : VK) (E : XK), Room k (A.deeper (envOfC qual (defScope st) s.heap.objs.size f (.ref c))) → sp vs H Q E →
      ∃ t, PSs (cxOf CX0 P w K mg base N qual (defScope st) f (.ref c) A outer s H E).nox (defBody st) t ∧ t { nx := fun _ H' => Q .non H', rt := Q } (L2.start N vs) H) : FnOk P w K mg base CX0 (k + 1) f fd ps sp :=
  F.okC S len fun A outer s H vs Q E hr hsp => by
    obtain ⟨t, h, q⟩ := hbody A outer s H vs Q E hr hsp
    exact ⟨t, h.nox, q⟩
theorem funC_mk {x qual : Str} {st : Stmt} {f c : Addr} {oc : Value} {od an : Option Addr} {osl : Array (Option Value)} {kV doc pm cdv ct : Value} (l : K.lookup f = some ⟨oc, od, .func (PySem.W.fnOf x qual (defArgs st) (defBody st) (defScope st) .none kV doc pm an cdv ct), osl⟩)
    (e : cdv = .ref c) (k1 : PySem.W.codeIn K cdv qual = true) (k : PySem.W.keepIn K (.ref f) = true) : FunC K x qual st f (PySem.W.fnOf x qual (defArgs st) (defBody st) (defScope st) .none kV doc pm an cdv ct) c := by
  subst e
  exact ⟨⟨oc, od, kV, doc, pm, an, ct, osl, rfl, l, k1⟩, k⟩
/-- the code object of a def of the top -/
theorem code_eq {x : Str} {f c P' : Addr} {oc : Value} {od : Option Addr} {fd : FuncData} {osl : Array (Option Value)} (hn : PySem.W.nsIn K mainGlobals x = some (some (.ref f))) (l : K.lookup f = some ⟨oc, od, .func fd, osl⟩) (t : PySem.W.tabIn K x = some (c, P')) : fd.code = .ref c := by
  unfold PySem.W.tabIn at t
  rw [hn] at t
  simp only [l] at t
  split at t
  · rename_i c2 hc
    split at t
    · split at t
      · cases t
        exact hc
      · cases t
    · cases t
  · cases t
end
theorem tab_in {K : PySem.W.Frag} {x : Str} {f c P : Addr} {oc : Value} {od : Option Addr} {fd : FuncData} {osl : Array (Option Value)} {uc : Value} {ud : Option Addr} {uv : Array Value} {us : Array (Option Value)} (hn : PySem.W.nsIn K mainGlobals x = some (some (.ref f))) (l : K.lookup f = some ⟨oc, od, .func fd, osl⟩) (hc : fd.code = .ref c)
    (u : K.lookup c = some ⟨uc, ud, .fields uv, us⟩) (hv : (uv[11]? : Option Value) = some (.ref P)) : PySem.W.tabIn K x = some (c, P) := by
  unfold PySem.W.tabIn
  rw [hn]
  simp only [l, hc, u, hv]
/-- a law whose defs write tables; the ground of the head is told -/
theorem walk_ofG {l : PySem.W.OpenLaw} {n k : Nat} {q : Program} {loose : List Str} {XP : (Str → Option Value) → Heap → Prop} {YP : World → Heap → Prop} {d : DefRec} {K : Params → PySem.W.Frag} {CX : World → CXT} {x : Str}
    (hn : l.most = some n) (hn2 : n ≤ sizeLine) (hdf : d.params.defaults = []) (hr : Room k callerA) (hY : ∀ (w : World) (h : Heap), YP w h → (K w.params).In h)
    (F : ∀ (w : World) (mg : Str → Option Value) (fa : Addr) (h : Heap), (K w.params).In h → h.Ns mainGlobals mg → mg d.name = some (.ref fa) →
      (∀ (y : Str) (c P : Addr), ((recsOf q).any fun e => e.name == y) = true → PySem.W.tabIn (K w.params) y = some (c, P) → PySem.W.CodeHd h c P ∧ h.get? P = some { cls := .none, data := .fields #[] }) → LamX.LawAtS l w (K w.params) (CX w) k n x mg fa h)
    (hCX : ∀ (w : World) (H : Hp) (s : Shared) (e : Value) (s' : Shared), CX w [] H s (fun _ _ _ => False) e s' → False) :
    PySem.W.WalkO q loose XP YP l.row.toRowW d [] (fun f vs => PySem.call f vs) := by
  refine Att.attach_callB hn hdf fun w s₀ s₁ mg mb fa o pm cd doc a vs ns G Y ho hd hcd hmg hobj hints hlen hbits hg => ?_
  have kx := hY w _ Y
  obtain ⟨fd, cs, sp, hT, nT, C, hb, hsp, hF⟩ := F w mg fa _ kx G.T.g hmg fun y c P hy ht => by
    obtain ⟨d', hd'⟩ : ∃ d', (recsOf q).find? (fun e => e.name == y) = some d' := by
      rw [← Option.isSome_iff_exists, List.find?_isSome]
      rw [List.any_eq_true] at hy
      exact hy
    exact PySem.W.tab_of G.T kx hd' ht
  exact LamX.law_callTs kx G.T.g G.T.b G.T.builtins G.T.nolimit hg hT nT C G.T.bmain hobj hints (Nat.le_trans hlen hn2) hr hF hb (fun H hH hS => hsp H a ns hlen hbits hH hS) fun H e s' => hCX w H s₁ e s'
end PL
set_option maxHeartbeats 1000000
/-! list(zip(x, y)) of two pairs -/
namespace PL
open PySem PySem.Spec PyProof.Rows L2 FR
end PL
/-! defs called within an except suite, with the caught error; try statements of any body -/
namespace PX
open PySem PySem.Spec PyProof.Rows L2 L2H
/-- what a def promises to a caller that may hold a caught error; p: that error's object -/
structure FnP (P : Program) (w : World) (K : PySem.W.Frag) (mg : Str → Option Value) (base : Heap) (k : Nat) (f : Addr) (fd : FuncData) (ps : List Str) (sp : Addr × Obj → Sp) : Prop where
  many : ∀ p vs H Q E, sp p vs H Q E → vs.length = ps.length
  goes : ∀ (A : Around) (outer : List Env) (s : Shared) (H : Hp) (args : Args) (us : List Value) (vs : List V) (Q : VK) (E : XK) (p : Addr × Obj), sp p vs H Q E → Vals vs us → BindsTo s fd args (ps.zip us) → Env0 P w K mg base A outer s H →
    PinOk outer H s p → RoomH k A → codeAny (model P w) A (.call (.ref f) args) (CR CX0 outer P w H s Q E) s
section
variable {P : Program} {w : World} {K : PySem.W.Frag} {mg : Str → Option Value} {base : Heap}
theorem def_pin {x qual : Str} {st : Stmt} {f : Addr} {fd : FuncData} {N ps : List Str} {k : Nat} {sp : Addr × Obj → Sp} (F : Fun K x qual st f fd) (sc : FnScope N ps (defScope st)) (hl : ∀ p vs H Q E, sp p vs H Q E → vs.length = ps.length)
    (body : ∀ (cdv : Value) (A : Around) (outer : List Env) (s : Shared) (H : Hp) (vs : List V) (Q : VK) (E : XK) (p : Addr × Obj), RoomH k (A.deeper (envOfC qual (defScope st) s.heap.objs.size f cdv)) → sp p vs H Q E →
      ∃ t, PSs (cxH CX0 P w K mg base N qual (defScope st) f cdv A outer s H E p) (defBody st) t ∧ t { nx := fun _ H' => Q .non H', rt := Q } (L2.start N vs) H) : FnP P w K mg base (k + 1) f fd ps sp := by
  obtain ⟨oc, od, kV, doc, pm, an, cd, ct, osl, rfl, at_, cdo⟩ := F.ex
  refine { many := hl, goes := fun A outer s H args us vs Q E p hsp rel bnd en pin room => ?_ }
  have inK : K.In s.heap := en.mod.kin.keeps fun b o z => (en.bs b o z).1
  have free : s.heap.NoLimit := en.mod.nolimit.keeps fun b o z => (en.bs b o z).1
  have kinds : ∀ y ∈ ps.zip us, (defScope st).names.lookup y.1 = some .local ∨ ((defScope st).names.lookup y.1 = some .cell ∧ ((cellsFrom (s.heap.objs.size + 1) (defScope st).names []).lookup y.1).isSome = true) := by
    rintro ⟨n, v⟩ hy
    exact (sc.par n (List.of_mem_zip hy).1).imp id fun q => ⟨q, PySem.W.cellsFrom_some _ _ _ (.inl q)⟩
  refine codeAny_call_function room.depth (inK _ _ at_) rfl sc.co sc.gen rfl (PySem.W.codeRec_of inK cdo) (bnd _ _ _ _ (wpAny_newFunctionEnv_cells sc.kind kinds fun env e s1 ic => ?_))
  subst e
  obtain ⟨t, hp, ht⟩ := body cd A outer s H vs Q E p (room.deeper _) hsp
  have J : Inv (cxH CX0 P w K mg base N qual (defScope st) f cd A outer s H E p) [] (L2.start N vs) H s1 := inv_startH sc pin en (hl _ _ _ _ _ hsp) rel ic
  refine ⟨free.keeps ic.toInCall.keep, codeAny_func (wpAny_mono (hp.run [] s1 (L2.start N vs) H _ J ht) (fun fl s2 h2 => ?_) fun _ _ z => z)⟩
  match fl, h2 with
  | .ret u, ⟨v, σ', H', I2, rv, q⟩ => exact ⟨v, H', I2.os, I2.bare, I2.base, I2.hok, rv, q⟩
  | .next, ⟨σ', H', I2, q⟩ => exact ⟨V.non, H', I2.os, I2.bare, I2.base, I2.hok, rfl, q⟩
  | .brk, ⟨_, _, _, q⟩ => exact False.elim q
  | .cont, ⟨_, _, _, q⟩ => exact False.elim q
end
/-! ### isinstance of the caught error -/
def tIsP (K : PySem.W.Frag) (a : Addr) (cls : Value) (dd : Option Addr) (C : Addr) (te : TE) : TE := fun σ H Q => te σ H fun x H1 => ∃ (D : Addr) (b : Bool), [x, V.ref C] = [V.ref a, V.ref C] ∧ cls = .ref D ∧ dd = none ∧ ExcC K D ∧ PySem.W.kitOne K (.ref D) (.ref C) = some b ∧ Q (.bl b) H1
section
variable {X : Cx} {q : Addr × Obj} {C D : Addr} {cls : Value} {dd : Option Addr} {y : Str} {r r2 pos : Pos} {e : Expr} {te : TE}
theorem inst_of {pins : List (Addr × Obj)} {σ : L2.St} {H : Hp} {s : Shared} (I : Inv X pins σ H s) (hq : q ∈ X.pn) (hz : Zc (.ref D) none q.2) (hf : ∃ us, q.2.data = .fields us) : PySem.W.InstAt s.heap q.1 q.2 D none := by
  have hget := (I.pin q (List.mem_append_left _ hq)).1
  obtain ⟨a, oc, od, dt, sl⟩ := q
  obtain ⟨us, hu⟩ := hf
  obtain ⟨z1, z2⟩ := hz
  dsimp only at z1 z2 hu hget ⊢
  subst z1 z2 hu
  exact ⟨hget, rfl, rfl, trivial⟩
theorem pe_isP (hq : q ∈ X.pn) (hz : Zc cls dd q.2) (hf : ∃ us, q.2.data = .fields us) (he : PE X e te) (hg : Gl X ("isinstance" : Str)) (hm : X.mg "isinstance" = none) (hgy : Gl X y) (hmy : X.mg y = some (.ref C)) (hdb : (y == ("__debug__" : Str)) = false := by decide)
    (hs : starEach [e, .Name y r2] X.env = (false, eval e X.env) :: starEach [.Name y r2] X.env := by rfl) (hp : (backTo pos (starEach [.Name y r2] X.env)).any (·.1) = false := by rfl) : PE X (.Call (.Name "isinstance" r) [e, .Name y r2] [] pos) (tIsP X.K q.1 cls dd C te) := by
  refine ⟨fun pins s σ H Q I h => ?_⟩
  have boot : bootBuiltins "isinstance" = some (.builtin "isinstance") := by decide +kernel
  refine wpAny_Call_Name_kw (ld_blt I hg hm boot (PyProof.Rows.callWith_builtin1 ?_ hs hp))
  have both : PA X [e, .Name y r2] (tCons te (tCons (tC (.ref C)) tNil)) := pa_cons he (pa_cons (pe_glob hgy hmy rfl hdb) pa_nil rfl) hs
  refine thn (both.run pos pins s σ H (fun vs H1 => ∃ (D : Addr) (b : Bool), vs = [V.ref q.1, V.ref C] ∧ cls = .ref D ∧ dd = none ∧ ExcC X.K D ∧ PySem.W.kitOne X.K (.ref D) (.ref C) = some b ∧ Q (.bl b) H1) I ?_) fun us s1 ⟨vs, H1, I1, r1, D, b, ev, ec, ed, hD, hk, hQ⟩ => ?_
  · exact h
  · subst ev ec ed
    cases r1 with
    | cons ra rr =>
      cases rr with
      | cons rb rr =>
        cases rr
        cases ra
        cases rb
        exact PySem.W.kia_one (PySem.W.handS_kitx_exc hD.hg hD.hk hD.hs hD.hd hD.ha hD.hn hD.ht hD.hm) I1.kIn (inst_of I1 hq hz hf) hk (fun z => nomatch z) fun tk => ⟨.bl b, H1, I1.kept (t' := tk) fun _ _ z => z, rfl, hQ⟩
end
/-! ### the call -/
def tCallP (sp : Addr × Obj → Sp) (a : Addr) (cls : Value) (dd : Option Addr) (t : TA) : TE := fun σ H Q => t σ H fun vs H1 => ∀ oe, Zc cls dd oe → (∃ us, oe.data = .fields us) → sp (a, oe) vs H1 Q fun _ _ _ => False
section
variable {X : Cx} {a f : Addr} {oe : Obj} {pn : List (Addr × Obj)} {k : Nat} {fd : FuncData} {ps : List Str} {sp : Addr × Obj → Sp} {cls : Value} {dd : Option Addr} {x : Str} {r pos : Pos} {e : Expr} {es : List Expr} {t : TA}
theorem pe_callP (F : FnP X.prog X.w X.K X.mg X.base k f fd ps sp) (room : Room k X.A) (hz : Zc cls dd oe) (hf : ∃ us, oe.data = .fields us) (hg : Gl X x) (hm : X.mg x = some (.ref f)) (hk : PySem.W.keepIn X.K (.ref f) = true) (hb : Binds X.K fd ps []) (ha : PA (X.suite a ((a, oe) :: pn)) (e :: es) t)
    (hdb : (x == ("__debug__" : Str)) = false := by decide) (hs : starEach (e :: es) X.env = (false, eval e X.env) :: starEach es X.env := by rfl) (hp : (backTo pos (starEach es X.env)).any (·.1) = false := by rfl) :
    PE (X.suite a ((a, oe) :: pn)) (.Call (.Name x r) (e :: es) [] pos) (tCallP sp a cls dd t) := by
  refine ⟨fun pins s σ H Q I h => ?_⟩
  refine wpAny_Call_Name_kw (ld_glob I hg hm ?_ hdb)
  refine PySem.W.callWith_K (h₀ := X.base) I.ok.mod.kin hk (thn (ha.run pos pins s σ H _ I h) fun us s1 ⟨vs, H1, I1, rel, q⟩ => ⟨I1.kIn, ?_⟩) hs hp
  have q := q oe hz hf
  have P1 := I1.pin (a, oe) (List.mem_append_left _ List.mem_cons_self)
  have pin : PinOk X.stack H1 s1 (a, oe) := { get := P1.1, free := P1.2.1, nofs := fun z => (List.mem_cons.mp (I1.stkSub _ z)).elim P1.2.2.1 P1.2.2.2.1, nocell := P1.2.2.2.2 }
  have hl : (us ++ []).length = ps.length := by rw [List.append_nil, ← rel.length, F.many _ _ _ _ _ q]
  have bnd := hb s1 us I1.kIn hl
  rw [List.append_nil] at bnd
  refine wpAny_call (codeAny_mono (F.goes _ _ s1 H1 _ us vs Q _ (a, oe) q rel bnd I1.env0 pin ⟨room.dp, room.un⟩) fun res s2 h2 => ?_)
  match res, h2 with
  | .ok (.ret u), h2 => exact I1.after h2
  | .ok .next, h2 => exact False.elim h2
  | .ok .brk, h2 => exact False.elim h2
  | .ok .cont, h2 => exact False.elim h2
  | .error _, h2 => exact False.elim h2
end
/-! ### try statements: what is told of the body by the wish -/
def tTryAs (K : PySem.W.Frag) (c : Value) (i : Nat) (ts : Addr → Value → Option Addr → TS) (Wo : WX) (tb : WX → TS) : TS := fun D σ H => tb (wAs K c i ts Wo D) D σ H
section
variable {X : Cx} {x n : Str} {c : Value} {i : Nat} {B R : List Stmt} {b : Stmt} {p1 p2 p3 : Pos} {tb : WX → TS} {ts : Addr → Value → Option Addr → TS} {Wo : WX}
theorem tryAs (h1 : X.stack = X.env :: X.outer) (h2 : X.env.frame = some X.env.locals) (h3 : X.N.Nodup) (h4 : X.N[i]? = some n) (h5 : X.env.kindOf n = some .local) (h6 : Names X x c) (h7 : Takes X Wo)
    (hB : ∀ (W : WX) (q : List (Addr × Obj)) (e : Value → Shared → Prop), Takes (X.tr q e) W → PassesOwn (model X.prog X.w) X.A X.env e → PSs (X.tr q e) B (tb W))
    (hR : ∀ (a : Addr) (oe : Obj) (k : Value) (d : Option Addr) (q : List (Addr × Obj)), Zc k d oe → (∃ us, oe.data = .fields us) → PSs (X.suite a ((a, oe) :: q)) (b :: R) (ts a k d)) :
    PS X (.Try B [.ExceptHandler (some (.Name x p1)) (some n) (b :: R) p2] [] [] p3) (tTryAs X.K c i ts Wo tb) := ps_try_as h1 h2 h3 h4 h5 h6 h7 hB hR
end
end PX
namespace PL
open PySem PySem.Spec PyProof.Rows L2 FR GX PX
variable [Nm]
section
variable {K : PySem.W.Frag} {ρ ρ1 : Rho} {I J L N : Asn} {ta tb te : TE} {d e : Dat} {t u : TT} {b c : Bool} {ts us : TS} {k : Out} {tr : TA} {ds : List Dat} {tabs : Tbs}
/-- of an error of the class at D a def hands back d -/
def spCls (K : PySem.W.Frag) (R : Addr → Dat → Prop) : Addr × Obj → Sp := fun p vs H Q _ => ∃ G D d, vs = [V.ref p.1] ∧ Zc (.ref D) none p.2 ∧ (∃ us, p.2.data = .fields us) ∧ R D d ∧ Same G H ∧ ∀ v G2 H2, Stp NoA G H G2 H2 → Dv K G2 v d → Q v H2
theorem len_C {R : Addr → Dat → Prop} {p : Addr × Obj} {vs : List V} {H : Hp} {Q : VK} {X : XK} (h : spCls K R p vs H Q X) : vs.length = 1 := by
  obtain ⟨_, _, _, rfl, _⟩ := h
  rfl
theorem zc_C {R : Addr → Dat → Prop} {p : Addr × Obj} {vs : List V} {H : Hp} {Q : VK} {X : XK} (h : spCls K R p vs H Q X) : Zc p.2.cls p.2.dict p.2 ∧ ∃ us, p.2.data = .fields us := by
  obtain ⟨_, _, _, _, _, h, _⟩ := h
  exact ⟨⟨rfl, rfl⟩, h⟩
theorem body_C {R : Addr → Dat → Prop} {p : Addr × Obj} {n : List Str} {vs : List V} {H : Hp} {Q : VK} {X : XK} (hb : ∀ D d, R D d → p.2.cls = .ref D → p.2.dict = none → ∀ I, S K ts (some (.r p.1) :: List.replicate (n.length - 1) none) I (.rt d I)) (h : spCls K R p vs H Q X) :
    ts { nx := fun _ H' => Q .non H', rt := Q } (L2.start n vs) H := by
  obtain ⟨G, D, d, rfl, z, _, r, gh, q⟩ := h
  refine hb D d r z.1 z.2 (Asn.since NoA G H) G H _ _ gh ?_ (Stp.refl gh) fun v G2 H2 g2 gh2 j2 dv => q v G2 H2 j2 dv
  exact env_start (vs := [V.ref p.1]) (ds := [.r p.1]) _ ⟨rfl, trivial⟩
theorem e_isP {a D C : Addr} {cls : Value} {dd : Option Addr} (ha : E K te ρ I (.r a) J) (hc : cls = .ref D) (hd : dd = none) (hD : ExcC K D) (hk : PySem.W.kitOne K (.ref D) (.ref C) = some b) : E K (tIsP K a cls dd C te) ρ I (.b b) J := fun G H σ gh en io Q q =>
  ha G H σ gh en io _ fun x G1 H1 g1 gh1 j1 dx => ⟨D, b, by rw [show x = V.ref a from dx], hc, hd, hD, hk, q _ G1 H1 g1 gh1 j1 (.bl b)⟩
theorem e_callP {a D : Addr} {R : Addr → Dat → Prop} (hr : A K tr ρ I [.r a] J) (h : R D d) : E K (tCallP (spCls K R) a (.ref D) none tr) ρ I d J := fun G H σ gh en io Q q =>
  hr G H σ gh en io _ fun vs G1 H1 g1 gh1 j1 dvs oe hz hf => by
    obtain ⟨v, rfl, h1⟩ := dva1 dvs
    exact ⟨G1, D, d, by rw [show v = V.ref a from h1], hz, hf, h, gh1, fun v G2 H2 s dv => q v G2 H2 (g1.trans s.gg) s.gh (Asn.pure_st s j1) dv⟩
theorem kit_same {K : PySem.W.Frag} {D : Addr} : PySem.W.kitOne K (.ref D) (.ref D) = some true := by
  unfold PySem.W.kitOne
  rw [if_pos]
  simp
theorem kit_other {C D : Addr} (h : PySem.W.hasDictIn K C = true) (ht : PySem.W.typeIn K (.ref C) = some (.type "type")) (hr : PySem.W.subIn K (.ref C) (.ref C) = some true) (hs : PySem.W.subIn K (.ref D) (.ref C) = some false) : PySem.W.kitOne K (.ref D) (.ref C) = some false := by
  obtain ⟨cd, hc, _⟩ := PySem.W.any_some h
  have e1 : ((Value.ref D) == (Value.ref C)) = false := by
    refine Bool.eq_false_iff.mpr fun q => ?_
    have e : D = C := Value.ref.inj (beq_iff_eq.mp q)
    rw [e, hr] at hs
    cases hs
  have e2 : ((PySem.W.clsIn K C).isSome && PySem.W.typeIn K (.ref C) == some (.type "type")) = true := by rw [hc, ht] <;> rfl
  unfold PySem.W.kitOne
  rw [e1, if_neg Bool.false_ne_true]
  show (if ((PySem.W.clsIn K C).isSome && PySem.W.typeIn K (.ref C) == some (.type "type")) = true then _ else none) = some false
  rw [if_pos e2]
  exact hs
/-! ### try statements of any body -/
def Asn.frm (G0 : Hp) : Asn := ⟨NoA, fun G _ => Same G0 G, fun _ _ _ _ _ _ s h => h.trans s.gg, fun _ _ _ _ z => z.elim⟩
/-- nothing is raised -/
theorem s_tryN {tb : WX → TS} {i : Nat} {c : Value} {tsu : Addr → Value → Option Addr → TS} {Wo : WX} (h : ∀ W, S K (tb W) ρ I k) : S K (tTryAs K c i tsu Wo tb) ρ I k := fun G H σ D gh en io f => h (wAs K c i tsu Wo D) G H σ D gh en io f
theorem e_callSX {R : List Dat → Res → Prop} {W : WX} [hT : HasT tabs J] (hr : A K tr ρ I ds J) (h : R ds (.ok d)) : E K (tCallS (spXT K tabs R) (WE W) tr) ρ I d J := fun G H σ gh en io Q q => hr G H σ gh en io _ fun vs G1 H1 g1 gh1 j1 dvs =>
  ⟨G1, ds, .ok d, gh1, dvs, h, hT.get _ _ j1, fun v G2 H2 s dv => q v G2 H2 (g1.trans s.gg) s.gh (Asn.pure_st s j1) dv⟩
/-- a call that raises within a try -/
theorem e_callSE {R : List Dat → Res → Prop} {W : WX} {C : Addr} [hT : HasT tabs J] (hr : A K tr ρ I ds J) (h : R ds (.err C)) (hW : ∀ G H σ, Same G H → EnvD K G σ ρ → J.ok G H → W (.ref C) none σ H) : E K (tCallS (spXT K tabs R) (WE W) tr) ρ I d L := fun G H σ gh en io Q q => hr G H σ gh en io _ fun vs G1 H1 g1 gh1 j1 dvs =>
  ⟨G1, ds, .err C, gh1, dvs, h, hT.get _ _ j1, fun G2 H2 s => hW G2 H2 σ s.gh (env_mono (g1.trans s.gg) en) (Asn.pure_st s j1)⟩
abbrev Out.nil : Out := .fin fun _ _ _ => False
/-- an error of the class C is raised, which the suite holds -/
theorem s_tryXAs {tb : WX → TS} {j : Nat} {c : Value} {C : Addr} {tsu : Addr → Value → Option Addr → TS} {Wo : WX} {ρx : Rho} {Jx L : Asn} (he : PySem.W.exmOne K (.ref C) c = some true) (hs : ∀ a, S K (tsu a (.ref C) none) (ρx.set j (some (.r a))) Jx (.rt d L))
    (hb : ∀ (W : WX) (G0 : Hp), (∀ G H σ, Same G0 G → Same G H → EnvD K G σ ρx → Jx.ok G H → W (.ref C) none σ H) → S K (tb W) ρ (I.and (Asn.frm G0)) .nil) : S K (tTryAs K c j tsu Wo tb) ρ I (.rt d L) := fun G H σ D gh en io f =>
  hb (wAs K c j tsu Wo D) G (fun G1 H1 σ1 g1 gh1 en1 j1 => ⟨true, he, fun _ a na => hs a G1 H1 _ _ gh1 (env_set (d := .r a) rfl en1) j1 fun v G3 H3 g3 => f v G3 H3 (g1.trans g3), fun z => nomatch z⟩) G H σ D gh en ⟨io, Same.refl G⟩ fun _ _ _ _ _ z => z.elim
instance hasT_and {T : Tbs} {G0 : Hp} [h : HasT T J] : HasT T (J.and (Asn.frm G0)) := ⟨fun G H z => h.get G H z.1⟩
/-! ### texts -/
theorem e_addS {x y : Str} (ha : E K ta ρ I (.d (.str x)) J) (hb : E K tb ρ J (.d (.str y)) L) (hl : x.length + y.length ≤ sizeLine) : E K (tOp (fun x y H Q => ∃ i j, x = .str i ∧ y = .str j ∧ i.length + j.length ≤ sizeLine ∧ Q (.str (i ++ j)) H) ta tb) ρ I (.d (.str (x ++ y))) L :=
  e_op ha hb fun G H v w gh lo dx dy Q q => by
    obtain rfl := dv_str dx
    obtain rfl := dv_str dy
    exact ⟨x, y, rfl, rfl, hl, q _ G H (Same.refl _) gh lo (.str _)⟩
/-- k not in (0, 1) -/
theorem e_axis {n : Int} (ha : E K ta ρ I (.i n) J) (hb : E K tb ρ J (.t [.int 0, .int 1]) L) : E K (tOp (rIn K true) ta tb) ρ I (.b (!(decide (n = 0) || decide (n = 1)))) L :=
  e_op ha hb fun G H v w gh lo dx dy Q q => by
    obtain rfl := dv_int dx
    cases dy with
    | tup s r =>
      cases r with
      | cons r0 r =>
        cases r with
        | cons r1 r =>
          cases r
          cases r0
          cases r1
          refine ⟨_, _, rfl, .inr (same_t gh s), rfl, rfl, ?_⟩
          have e : (if true = true then !inV (.int n) [V.int 0, V.int 1] else inV (.int n) [V.int 0, V.int 1]) = !(decide (n = 0) || decide (n = 1)) := by
            rw [if_pos rfl]
            show (!((0 : Int) == n || ((1 : Int) == n || false))) = _
            congr 1
            have h0 : ((0 : Int) == n) = decide (n = 0) := by
              by_cases c : n = 0
              · subst c; rfl
              · rw [decide_eq_false c]; exact beq_false_of_ne fun z => c z.symm
            have h1 : ((1 : Int) == n) = decide (n = 1) := by
              by_cases c : n = 1
              · subst c; rfl
              · rw [decide_eq_false c]; exact beq_false_of_ne fun z => c z.symm
            rw [h0, h1, Bool.or_false]
          rw [e]
          exact q _ G H (Same.refl _) gh lo (.bl _)
theorem cxHK {CX : CXT} {P : Program} {w : World} {K : PySem.W.Frag} {mg : Str → Option Value} {base : Heap} {N : List Str} {q : Str} {sc : Scope} {f : Addr} {cd : Value} {A : Around} {o : List Env} {s : Shared} {H : Hp} {E : XK} {p : Addr × Obj} :
    (L2H.cxH CX P w K mg base N q sc f cd A o s H E p).K = K := rfl
end
end PL
/-! walks, loops with a state that is told by a wish, draws of which bounds are told, dicts, tuples -/
namespace PL
open PySem PySem.Spec PyProof.Rows L2 FR GX PX
variable [Nm]
section
variable {K : PySem.W.Frag} {ρ ρ1 : Rho} {I J L N : Asn} {ta tb tc te : TE} {d e : Dat} {t u : TT} {b c : Bool} {ts us : TS} {k : Out} {tr : TA} {ds : List PyData} {x y : PyData}
/-! ### walks -/
/-- J walks over n items, the i-th is xs i; each turn may lay new objects -/
structure Walk (K : PySem.W.Frag) (J : It) (n : Nat) (xs : Nat → PyData) (G1 : Hp) : Prop where
  go : ∀ i G H, i < n → Same G1 G → Same G H → J.go i H
  stop : ∀ G H, Same G1 G → Same G H → J.stop n H
  yld : ∀ i G H v H', i < n → Same G1 G → Same G H → J.yld i H v H' → ∃ G', Stp NoA G H G' H' ∧ Dp K G' v (xs i)
theorem walk_t {G : Hp} {a : Addr} {vs : List V} {xs : Nat → PyData} (s : SqT K G a vs) (r : DpAll K G vs ds) (hx : ∀ i, i < ds.length → ds[i]? = some (xs i)) : Walk K (Itt K a) ds.length xs G := by
  have lx := dpa_len r
  refine ⟨fun i G2 H hi a1 a2 => ⟨vs, vs[i]'(by omega), same_t (a1.trans a2) s, List.getElem?_eq_getElem (by omega)⟩, fun G2 H a1 a2 => ⟨vs, same_t (a1.trans a2) s, by omega⟩, fun i G2 H v H' hi a1 a2 y => ?_⟩
  obtain ⟨rfl, y2⟩ := y
  obtain ⟨w, h1, h2⟩ := dpa_get r (hx i hi)
  obtain rfl : v = w := Option.some.inj ((y2 vs (same_t (a1.trans a2) s)).symm.trans h1)
  exact ⟨G2, Stp.refl a2, dp_mono a1 _ _ h2⟩
theorem walk_l {G : Hp} {a : Addr} {vs : List V} {xs : Nat → PyData} (s : SqL K G a vs) (r : DpAll K G vs ds) (hx : ∀ i, i < ds.length → ds[i]? = some (xs i)) : Walk K (Itl K a) ds.length xs G := by
  have lx := dpa_len r
  refine ⟨fun i G2 H hi a1 a2 => ⟨vs, vs[i]'(by omega), (a1.trans a2).seq s, List.getElem?_eq_getElem (by omega)⟩, fun G2 H a1 a2 => ⟨vs, (a1.trans a2).seq s, by omega⟩, fun i G2 H v H' hi a1 a2 y => ?_⟩
  obtain ⟨rfl, y2⟩ := y
  obtain ⟨w, h1, h2⟩ := dpa_get r (hx i hi)
  obtain rfl : v = w := Option.some.inj ((y2 vs ((a1.trans a2).seq s)).symm.trans h1)
  exact ⟨G2, Stp.refl a2, dp_mono a1 _ _ h2⟩
theorem walk_r {G : Hp} {lo : Int} {n : Nat} : Walk K (Itr lo n) n (fun i => .int (lo + (i : Nat))) G :=
  ⟨fun i _ _ hi _ _ => hi, fun _ _ _ _ => Nat.le_refl _, fun i G2 H v H' hi a1 a2 y => by
    obtain ⟨rfl, rfl⟩ := y
    exact ⟨G2, Stp.refl a2, .int _⟩⟩
theorem walk_e {G : Hp} {a : Addr} {vs : List V} {xs : Nat → PyData} (s : SqL K G a vs) (r : DpAll K G vs ds) (hx : ∀ i, i < ds.length → ds[i]? = some (xs i)) : Walk K (Ite K a) ds.length (fun i => .tuple [.int (i : Nat), xs i]) G := by
  have lx := dpa_len r
  refine ⟨fun i G2 H hi a1 a2 => ⟨vs, vs[i]'(by omega), (a1.trans a2).seq s, List.getElem?_eq_getElem (by omega)⟩, fun G2 H a1 a2 => ⟨vs, (a1.trans a2).seq s, by omega⟩, fun i G2 H v H' hi a1 a2 y => ?_⟩
  obtain ⟨q, x, rfl, nq, rfl, y2⟩ := y
  obtain ⟨w, h1, h2⟩ := dpa_get r (hx i hi)
  obtain rfl : x = w := Option.some.inj ((y2 vs ((a1.trans a2).seq s)).symm.trans h1)
  have st := Stp.new (o := .tup [.int (i : Nat), x]) a2 nq
  exact ⟨_, st, .tup (.inl (.inl upd_same)) (.cons (.int _) (.cons (dp_mono (a1.trans st.gg) _ _ h2) .nil))⟩
/-- how an iterable is walked -/
def IW (K : PySem.W.Frag) (wi : TI) (ρ : Rho) (I : Asn) (n : Nat) (xs : Nat → PyData) (J : Asn) : Prop :=
  ∀ G H σ, Same G H → EnvD K G σ ρ → I.ok G H → ∀ R : It → Hp → Prop, (∀ Ji G2 H2, Same G G2 → Same G2 H2 → J.ok G2 H2 → Walk K Ji n xs G2 → R Ji H2) → wi σ H R
abbrev at0 (ds : List PyData) (i : Nat) : PyData := ds.getD i .none
theorem at0_get {i : Nat} (hi : i < ds.length) : ds[i]? = some (at0 ds i) := by
  unfold at0
  rw [List.getD_eq_getElem?_getD, List.getElem?_eq_getElem hi]
  rfl
theorem iw_t {tl : TE} (h : E K tl ρ I (.t ds) J) : IW K (iTup K tl) ρ I ds.length (at0 ds) J := fun G H σ gh en io R r => h G H σ gh en io _ fun v G1 H1 g1 gh1 j1 dv => by
  cases dv with
  | tup s r1 => exact ⟨_, rfl, ⟨_, same_t gh1 s⟩, r _ G1 H1 g1 gh1 j1 (walk_t s r1 fun i hi => at0_get hi)⟩
theorem iw_l {tl : TE} (h : E K tl ρ I (.d (.list ds)) J) : IW K (iList K tl) ρ I ds.length (at0 ds) J := fun G H σ gh en io R r => h G H σ gh en io _ fun v G1 H1 g1 gh1 j1 dv => by
  cases dv with
  | lst s r1 => exact ⟨_, rfl, ⟨_, gh1.seq s⟩, r _ G1 H1 g1 gh1 j1 (walk_l s r1 fun i hi => at0_get hi)⟩
theorem iw_ll {tl : TE} (h : E K tl ρ I (.l ds) J) : IW K (iList K tl) ρ I ds.length (at0 ds) J := iw_l (e_l2d h)
theorem iw_e {tl : TA} (h : A K tl ρ I [.d (.list ds)] J) : IW K (iEnum K tl) ρ I ds.length (fun i => .tuple [.int (i : Nat), at0 ds i]) J := fun G H σ gh en io R r => h G H σ gh en io _ fun vs G1 H1 g1 gh1 j1 dv => by
  obtain ⟨v, rfl, dw⟩ := dva1 dv
  cases dw with
  | lst s r1 => exact ⟨_, _, rfl, gh1.seq s, r _ G1 H1 g1 gh1 j1 (walk_e s r1 fun i hi => at0_get hi)⟩
theorem iw_r {tl : TA} {n : Nat} (h : A K tl ρ I [.i (n : Nat)] J) (hn : n ≤ 1000000) : IW K (iRng1 tl) ρ I n (fun i => .int (i : Nat)) J := fun G H σ gh en io R r => h G H σ gh en io _ fun vs G1 H1 g1 gh1 j1 dv => by
  obtain ⟨v, rfl, dw⟩ := dva1 dv
  obtain rfl := dv_int dw
  refine ⟨(n : Int), rfl, by omega, by omega, r _ G1 H1 g1 gh1 j1 ?_⟩
  rw [Int.toNat_natCast]
  have w := walk_r (K := K) (G := G1) (lo := 0) (n := n)
  exact ⟨w.go, w.stop, fun i G2 H v H' hi a1 a2 y => by
    obtain ⟨G', st, dp⟩ := w.yld i G2 H v H' hi a1 a2 y
    rw [Int.zero_add] at dp
    exact ⟨G', st, dp⟩⟩
/-! ### outcomes -/
/-- what binds a return alone -/
def Out.ret (k : Out) : Prop := (∃ d J, k = .rt d J) ∨ ∃ P, k = .fin P
theorem ret_rt {d : Dat} {J : Asn} : Out.ret (.rt d J) := .inl ⟨_, _, rfl⟩
theorem ret_fin {P : V → Hp → Hp → Prop} : Out.ret (.fin P) := .inr ⟨_, rfl⟩
theorem Out.ret.other {k : Out} (h : k.ret) {D D' : Ends} {G : Hp} (e : D'.rt = D.rt) (f : Fin K D G k) : Fin K D' G k := by
  rcases h with ⟨d, J, rfl⟩ | ⟨P, rfl⟩
  · intro v G2 H2 a b c dv
    rw [e]
    exact f v G2 H2 a b c dv
  · intro v G2 H2 a b c
    rw [e]
    exact f v G2 H2 a b c
/-- nothing comes behind -/
theorem s_stopR (hk : k.ret) (h : S K ts ρ I k) : S K (tSeq ts us) ρ I k := fun G H σ D gh en io f => h G H σ _ gh en io (hk.other (D := D) rfl f)
theorem s_any (h : S K ts ρ I .nil) : S K ts ρ I k := fun G H σ D gh en io f => h G H σ D gh en io fun _ _ _ _ _ z => z.elim
theorem s_ofRt {P : V → Hp → Hp → Prop} (h : S K ts ρ I (.rt d J)) (hp : ∀ v G H, Same G H → J.ok G H → Dv K G v d → P v G H) : S K ts ρ I (.fin P) := fun G H σ D gh en io f => h G H σ D gh en io fun v G2 H2 a b c dv => f v G2 H2 a b (hp v G2 H2 b c dv)
/-! ### loops: a state that keeps a wish -/
theorem s_loop {α : Type} {wi : TI} {g : TG} {n : Nat} {xs : Nat → PyData} (W : Nat → α → Prop) (P : α → Rho) (V : α → Asn) (a0 : α) (w0 : W 0 a0) (hl : IW K wi ρ I n xs (V a0)) (h0 : ρ = P a0)
    (step : ∀ i a, i < n → W i a → ∃ ρ', GJ K g (xs i) (P a) ρ' ∧ ((∃ a', W (i + 1) a' ∧ S K ts ρ' (V a) (.nx (P a') (V a'))) ∨ (k.ret ∧ S K ts ρ' (V a) k)))
    (done : ∀ a, W n a → S K us (P a) (V a) k) : S K (tSeq (tFor wi g ts) us) ρ I k := fun G H σ D gh en io f => by
  show tFor wi g ts { D with nx := fun σ' H' => us D σ' H' } σ H
  refine hl G H σ gh en io _ fun Ji G1 H1 g1 gh1 j1 wk => ?_
  refine ⟨fun i m σ' H' => m = n - i ∧ i ≤ n ∧ ∃ a G', W i a ∧ Same G1 G' ∧ Same G' H' ∧ EnvD K G' σ' (P a) ∧ (V a).ok G' H', ⟨n, rfl, Nat.zero_le _, a0, G1, w0, Same.refl _, gh1, h0 ▸ env_mono g1 en, j1⟩, fun i m σ' H' hw => ?_⟩
  obtain ⟨rfl, hi, a, G', wa, a1, a2, a3, a4⟩ := hw
  by_cases c : i < n
  · obtain ⟨ρ', hg, hs⟩ := step i a c wa
    rcases hs with ⟨a', wa', hs⟩ | ⟨hk, hs⟩
    · refine .inr ⟨wk.go i G' H' c a1 a2, fun σ2 H2 => ∃ G2, Same G1 G2 ∧ Same G2 H2 ∧ EnvD K G2 σ2 (P a') ∧ (V a').ok G2 H2, fun σ2 H2 ⟨G2, b1, b2, b3, b4⟩ => ⟨n - (i + 1), by omega, rfl, c, a', G2, wa', b1, b2, b3, b4⟩, fun v H2 y => ?_⟩
      obtain ⟨G2, st, dp⟩ := wk.yld i G' H' v H2 c a1 a2 y
      exact hg G2 H2 σ' v _ st.gh (env_mono st.gg a3) dp fun σ2 en2 => hs G2 H2 σ2 _ st.gh en2 (Asn.pure_st st a4) fun G3 H3 σ3 g3 gh3 en3 j3 => ⟨G3, (a1.trans st.gg).trans g3, gh3, en3, j3⟩
    · refine .inr ⟨wk.go i G' H' c a1 a2, fun _ _ => False, fun _ _ z => z.elim, fun v H2 y => ?_⟩
      obtain ⟨G2, st, dp⟩ := wk.yld i G' H' v H2 c a1 a2 y
      exact hg G2 H2 σ' v _ st.gh (env_mono st.gg a3) dp fun σ2 en2 => hs G2 H2 σ2 _ st.gh en2 (Asn.pure_st st a4) (hk.other (D := D) rfl (((f.mono g1).mono a1).mono st.gg))
  · have e : i = n := by omega
    subst e
    exact .inl ⟨wk.stop G' H' a1 a2, done a wa G' H' σ' D a2 a3 a4 ((f.mono g1).mono a1)⟩
/-! ### comprehensions over any walk -/
theorem e_lcW {wi : TI} {g : TG} {vs : List Nat} {n : Nat} {xs : Nat → PyData} {es : List PyData} (hl : IW K wi ρ I n xs I) (hn : es.length = n) (hz : n ≤ 100000)
    (he : ∀ i y, i < n → es[i]? = some y → ∃ ρ', GW K g vs (xs i) (wipeR ρ vs) ρ' ∧ ∀ I', E K te ρ' I' (.d y) I') : E K (tLc wi g tYes te vs) ρ I (.d (.list es)) I := fun G H σ gh en io Q q =>
  hl G H σ gh en io _ fun Ji G1 H1 g1 gh1 j1 wk D hD => by
    have gD : G1 D = none := gh1.free hD
    have nD : ∀ a, I.foot a → ¬ a = D := fun a fa z => by
      obtain ⟨o, ho⟩ := I.own G1 H1 a j1 fa
      rw [z, hD] at ho
      cases ho
    have st0 := Stp.newM (o := HO.lst []) gh1 hD
    refine ⟨fun i m H' => m = n - i ∧ i ≤ n ∧ ∃ G', Same G1 G' ∧ Same G' H' ∧ I.ok G' H' ∧ (lA K D (es.take i)).ok G' H' ∧ Stp (· = D) G1 (upd H1 D (.lst [])) G' H', ⟨n, rfl, Nat.zero_le _, G1, Same.refl _, st0.gh, Asn.pure_st st0 j1, ⟨gD, [], upd_same, .nil⟩, Stp.refl st0.gh⟩, fun i m H' hw => ?_⟩
    obtain ⟨rfl, hi, G', a1, a2, a3, a4, a5⟩ := hw
    by_cases c : i < n
    · have hi3 : i < es.length := by omega
      obtain ⟨ρ', hg, hel⟩ := he i _ c (List.getElem?_eq_getElem hi3)
      refine .inr ⟨wk.go i G' H' c a1 a2, fun H2 => ∃ G2, Same G1 G2 ∧ Same G2 H2 ∧ I.ok G2 H2 ∧ (lA K D (es.take (i + 1))).ok G2 H2 ∧ Stp (· = D) G1 (upd H1 D (.lst [])) G2 H2, fun H2 z => ⟨n - (i + 1), by omega, rfl, c, z⟩, fun v H2 y => ?_⟩
      obtain ⟨G2, st, dp⟩ := wk.yld i G' H' v H2 c a1 a2 y
      refine hg G2 H2 _ v _ st.gh (env_wipe (env_mono ((g1.trans a1).trans st.gg) en) vs) dp fun σ' en' hw => ⟨hw.trans (wipe_wipe σ vs), ?_⟩
      refine hel (((lA K D (es.take i)).and I).and (Asn.since (· = D) G1 (upd H1 D (.lst [])))) G2 H2 _ st.gh en' ⟨⟨Asn.pure_st st a4, Asn.pure_st st a3⟩, a5.trans (st.wide fun _ z => z.elim)⟩ _ fun y G3 H3 g3 gh3 j3 dy => ?_
      obtain ⟨⟨⟨gq, ws, hq, r2⟩, i3⟩, st3⟩ := j3
      have st4 := Stp.store (o := HO.lst (ws ++ [y])) gh3 gq hq
      refine ⟨ws, hq, ?_, G3, (a1.trans st.gg).trans g3, st4.gh, I.st _ _ _ _ _ nD st4 i3, ⟨gq, _, upd_same, ?_⟩, st3.trans st4⟩
      · rw [dpa_len r2, List.length_take]
        exact Nat.lt_of_le_of_lt (Nat.min_le_left _ _) (Nat.lt_of_le_of_lt (show i ≤ 100000 by omega) (by decide))
      · rw [List.take_add_one, List.getElem?_eq_getElem hi3]
        exact dpa_app r2 (.cons dy .nil)
    · have ei : i = n := by omega
      subst ei
      obtain ⟨gq, ws, hq, r2⟩ := a4
      have st : Stp (· = D) G' H' (upd G' D (.lst ws)) H' := Stp.frz a2 gq hq
      refine .inl ⟨wk.stop G' H' a1 a2, q _ (upd G' D (.lst ws)) H' ((g1.trans a1).trans st.gg) st.gh (I.st _ _ _ _ _ nD st a3) (.lst (.inl (.inl upd_same)) (dp_monos st.gg _ ws ?_))⟩
      rw [show es = es.take i by rw [List.take_of_length_le (by omega)]]
      exact r2
/-! ### reading a list that may change, as if it never did -/
mutual
def flatD : PyData → Bool
  | .none => true
  | .bool _ => true
  | .int _ => true
  | .str _ => true
  | .list _ => false
  | .tuple ds => flatDs ds
  | .dict _ => false
def flatDs : List PyData → Bool
  | [] => true
  | d :: ds => flatD d && flatDs ds
end
def gdel (G : Hp) (q : Addr) : Hp := fun b => if b = q then none else G b
theorem gdel_ne {G : Hp} {q b : Addr} (h : b ≠ q) : gdel G q b = G b := if_neg h
theorem gdel_eq {G : Hp} {q : Addr} : gdel G q q = none := if_pos rfl
theorem sqt_del {G : Hp} {q a : Addr} {vs xs : List V} (hq : G q = some (.lst vs)) (h : SqT K G a xs) : SqT K (gdel G q) a xs := by
  rcases h with (h | ⟨o, h⟩) | h
  · refine .inl (.inl ?_)
    have : a ≠ q := fun z => by rw [z, hq] at h; cases h
    show gdel G q a = _
    rw [gdel_ne this]; exact h
  · refine .inl (.inr ⟨o, ?_⟩)
    have : a ≠ q := fun z => by rw [z, hq] at h; cases h
    rw [gdel_ne this]; exact h
  · exact .inr h
mutual
theorem dp_del {G : Hp} {q : Addr} {vs : List V} (hq : G q = some (.lst vs)) : ∀ (d : PyData) (v : V), flatD d = true → Dp K G v d → Dp K (gdel G q) v d
  | .none, _, _, h => by cases h; exact .non
  | .bool b, _, _, h => by cases h; exact .bl b
  | .int i, _, _, h => by cases h; exact .int i
  | .str x, _, _, h => by cases h; exact .str x
  | .list ds, _, f, h => by cases f
  | .tuple ds, _, f, h => by
    cases h with
    | tup a b => exact .tup (sqt_del hq a) (dp_dels hq ds _ f b)
  | .dict _, _, _, h => by cases h
theorem dp_dels {G : Hp} {q : Addr} {vs : List V} (hq : G q = some (.lst vs)) : ∀ (ds : List PyData) (ws : List V), flatDs ds = true → DpAll K G ws ds → DpAll K (gdel G q) ws ds
  | [], _, _, h => by cases h; exact .nil
  | d :: ds, _, f, h => by
    have f' : (flatD d && flatDs ds) = true := f
    rw [Bool.and_eq_true] at f'
    cases h with
    | cons a b => exact .cons (dp_del hq d _ f'.1 a) (dp_dels hq ds _ f'.2 b)
end
theorem env_putK {G : Hp} {q : Addr} {z : Dat} (hx : Dv K G (.ref q) z) : ∀ {σ : List (Option V)} {ρ : Rho} {i : Nat}, EnvD K G σ ρ → ρ[i]? = some (some (.r q)) → EnvD K G σ (ρ.set i (some z))
  | [], [], _, _, e => by simp at e
  | s :: _, o :: _, 0, h, e => by
    have eo : o = some (.r q) := by simpa using e
    obtain ⟨h1, h2⟩ := h
    rw [eo] at h1
    obtain ⟨v, h3, h4⟩ := h1
    exact ⟨⟨v, h3, by rw [show v = V.ref q from h4]; exact hx⟩, h2⟩
  | _ :: σ, _ :: ρ, i + 1, h, e => ⟨h.1, env_putK hx (i := i) h.2 (by simpa using e)⟩
  | [], _ :: _, _, h, _ => h.elim
  | _ :: _, [], _, h, _ => h.elim
theorem e_borrow {i : Nat} {q : Addr} (hi : ρ[i]? = some (some (.r q))) (hx : flatD x = true) (h : ∀ I', E K te (ρ.set i (some (.d (.list ds)))) I' (.d x) I') : E K te ρ (lJ K q ds J) (.d x) (lJ K q ds J) := fun G H σ gh en io Q k => by
  obtain ⟨⟨gq, vs, hq, r⟩, jo⟩ := io
  have s0 := Stp.frz gh gq hq
  have en' : EnvD K (upd G q (.lst vs)) σ (ρ.set i (some (.d (.list ds)))) := env_putK (z := .d (.list ds)) (.lst (.inl (.inl upd_same)) (dp_monos s0.gg _ _ r)) (env_mono s0.gg en) hi
  refine h (Asn.since NoA (upd G q (.lst vs)) H) _ H σ s0.gh en' (Stp.refl s0.gh) _ fun v G2 H2 g2 gh2 j2 dv => ?_
  have j2 : Stp NoA (upd G q (.lst vs)) H G2 H2 := j2
  have gq2 : G2 q = some (.lst vs) := g2 q _ upd_same
  have st : Stp NoA G H (gdel G2 q) H2 := by
    refine ⟨fun b o e => ?_, fun b o e => ?_, j2.hh, fun a o _ e n => ?_, j2.ex, fun P t => ?_⟩
    rotate_left
    rotate_left
    rotate_left
    · have t2 := j2.lt P (s0.lt P t)
      refine t2.keep (fun g => ?_) fun b o e _ _ => e
      by_cases z : P = q
      · rw [z, gdel_eq]
      · rw [gdel_ne z]; exact g
    · have nb : b ≠ q := fun z => by rw [z, gq] at e; cases e
      rw [gdel_ne nb]
      exact (s0.gg b o e).trans fun u z => g2 b u z
    · have nb : b ≠ q := fun z => by rw [z, gdel_eq] at e; cases e
      rw [gdel_ne nb] at e
      exact gh2 b o e
    · by_cases z : a = q
      · rw [z, gdel_eq]
      · rw [gdel_ne z]
        exact j2.fr a o (fun z => z) e (by rw [upd_ne z]; exact n)
  exact k v _ H2 st.gg st.gh ⟨⟨gdel_eq, vs, j2.hh q _ (fun z => z) hq, dp_monos st.gg _ _ r⟩, Asn.pure_st st jo⟩ (dp_del gq2 x v hx dv)
/-- q[j], an item of a list that may change -/
theorem e_ixM {j : Nat} {q : Addr} (ha : E K ta ρ I (.r q) J) (hb : E K tb ρ J (.i (j : Nat)) N) (hN : ∀ G H, N.ok G H → (lA K q ds).ok G H) (h : ds[j]? = some x) : E K (tOp (rIxL K) ta tb) ρ I (.d x) N :=
  e_op ha hb fun G H v w gh lo dx dy Q k => by
    obtain rfl : v = .ref q := dx
    obtain rfl := dv_int dy
    obtain ⟨gq, vs, hq, r⟩ := hN G H lo
    obtain ⟨u, h1, h2⟩ := dpa_get r h
    exact ⟨q, _, _, u, rfl, rfl, .inl (.inl hq), atI_nat h1, k u G H (Same.refl _) gh lo h2⟩
/-! ### draws of which only bounds are told -/
/-- of the arguments ds, the list as C and what X says, a def that draws hands back some d and leaves some C' with Po d C' -/
def spN (K : PySem.W.Frag) (R : List Dat → DS → Asn → (Dat → DS → Prop) → Prop) : Sp := fun vs H Q _ => ∃ G ds p C X Po, Same G H ∧ DvAll K G vs (.r p :: ds) ∧ (dA K p C).ok G H ∧ X.ok G H ∧ ¬ X.foot p ∧ R ds C X Po ∧
  ∀ d C', Po d C' → ∀ v G2 H2, Stp (· = p) G H G2 H2 → (dA K p C').ok G2 H2 → Dv K G2 v d → Q v H2
abbrev outN (K : PySem.W.Frag) (p : Addr) (J : Asn) (Po : Dat → DS → Prop) : Out := .fin fun v G H => ∃ d C', Po d C' ∧ (dJ K p C' J).ok G H ∧ Dv K G v d
theorem len_N {R : List Dat → DS → Asn → (Dat → DS → Prop) → Prop} {n : Nat} (hl : ∀ ds C X Po, R ds C X Po → ds.length + 1 = n) {vs : List V} {H : Hp} {Q : VK} {X : XK} (h : spN K R vs H Q X) : vs.length = n := by
  obtain ⟨G, ds, p, C, Z, Po, gh, dvs, k, _, _, r, q⟩ := h
  rw [dva_len dvs, List.length_cons, hl ds C Z Po r]
theorem body_N {R : List Dat → DS → Asn → (Dat → DS → Prop) → Prop} {nn : List Str} {vs : List V} {H : Hp} {Q : VK} {X : XK} (hb : ∀ ds C Z Po, R ds C Z Po → ∀ p J, ¬ J.foot p → ¬ Z.foot p → S K ts (some (.r p) :: (ds.map some ++ List.replicate (nn.length - (ds.length + 1)) none)) (dJ K p C (Z.and J)) (outN K p J Po)) (h : spN K R vs H Q X) :
    ts { nx := fun _ H' => Q .non H', rt := Q } (L2.start nn vs) H := by
  obtain ⟨G, ds, p, C, Z, Po, gh, dvs, k, z, zp, r, q⟩ := h
  refine hb ds C Z Po r p (Asn.since (· = p) G H) (fun z => z.1 rfl) zp G H _ _ gh ?_ ⟨k, z, Stp.refl gh⟩ fun v G2 H2 g2 gh2 ⟨d, C', po, j2, dv⟩ => q d C' po v G2 H2 j2.2 j2.1 dv
  unfold L2.start
  rw [dva_len dvs, List.length_cons]
  exact env_start (ds := .r p :: ds) _ dvs
theorem s_retN {p : Addr} {C' : DS} {Po : Dat → DS → Prop} (h : S K ts ρ I (.rt d (dJ K p C' J))) (po : Po d C') : S K ts ρ I (outN K p J Po) := s_ofRt h fun v G H gh j dv => ⟨d, C', po, j, dv⟩
theorem s_preN {p : Addr} {C : DS} {Z : Asn} (h : S K ts ρ (dJ K p C J) k) : S K ts ρ (dJ K p C (Z.and J)) k := s_pre (I' := dJ K p C J) (fun _ _ z => ⟨z.1, z.2.2⟩) h
/-- an expression of which only a wish is told -/
def EN (K : PySem.W.Frag) (te : TE) (ρ : Rho) (I : Asn) (P : Dat → Asn → Prop) : Prop := ∀ G H σ, Same G H → EnvD K G σ ρ → I.ok G H → ∀ Q : VK, (∀ d J, P d J → ∀ v G2 H2, Same G G2 → Same G2 H2 → J.ok G2 H2 → Dv K G2 v d → Q v H2) → te σ H Q
def AN (K : PySem.W.Frag) (ta : TA) (ρ : Rho) (I : Asn) (P : List Dat → Asn → Prop) : Prop := ∀ G H σ, Same G H → EnvD K G σ ρ → I.ok G H → ∀ Q : List V → Hp → Prop, (∀ ds J, P ds J → ∀ vs G2 H2, Same G G2 → Same G2 H2 → J.ok G2 H2 → DvAll K G2 vs ds → Q vs H2) → ta σ H Q
theorem en_of {P : Dat → Asn → Prop} (h : E K te ρ I d J) (hp : P d J) : EN K te ρ I P := fun G H σ gh en io Q q => h G H σ gh en io _ fun v G2 H2 g2 gh2 j2 dv => q d J hp v G2 H2 g2 gh2 j2 dv
theorem an_of {P : List Dat → Asn → Prop} {ds : List Dat} (h : A K tr ρ I ds J) (hp : P ds J) : AN K tr ρ I P := fun G H σ gh en io Q q => h G H σ gh en io _ fun v G2 H2 g2 gh2 j2 dv => q ds J hp v G2 H2 g2 gh2 j2 dv
theorem an_cons {P : Dat → Asn → Prop} {P2 : List Dat → Asn → Prop} (h : EN K te ρ I P) (h2 : ∀ d J, P d J → AN K tr ρ J fun ds L => P2 (d :: ds) L) : AN K (tCons te tr) ρ I P2 := fun G H σ gh en io Q q => h G H σ gh en io _ fun d J p v G1 H1 g1 gh1 j1 dv =>
  h2 d J p G1 H1 σ gh1 (env_mono g1 en) j1 _ fun ds L p2 vs G2 H2 g2 gh2 j2 dvs => q (d :: ds) L p2 (v :: vs) G2 H2 (g1.trans g2) gh2 j2 ⟨dv_mono g2 dv, dvs⟩
theorem en_tup {P : List Dat → Asn → Prop} {P2 : Dat → Asn → Prop} (h : AN K tr ρ I P) (h2 : ∀ ds J, P ds J → ∃ xs, Ds ds xs ∧ xs.length ≤ 100000 ∧ P2 (.t xs) J) : EN K (tTup tr) ρ I P2 := fun G H σ gh en io Q q => h G H σ gh en io _ fun ds J p vs G1 H1 g1 gh1 j1 dvs => by
  obtain ⟨xs, hd, hl, p2⟩ := h2 ds J p
  have r : DpAll K G1 vs xs := dva_dp (by rw [← hd.map]; exact dvs)
  refine ⟨by rw [dpa_len r]; exact sz_of hl, fun a ha => ?_⟩
  have s := Stp.new (o := .tup vs) gh1 ha
  exact q (.t xs) J p2 _ _ _ (g1.trans s.gg) s.gh (Asn.pure_st s j1) (.tup (.inl (.inl upd_same)) (dp_monos s.gg xs vs r))
theorem en_draw {R : List Dat → DS → Asn → (Dat → DS → Prop) → Prop} {X : XK} {p : Addr} {C : DS} {Z : Asn} {ds : List Dat} {Po : Dat → DS → Prop} {P : Dat → Asn → Prop} (hr : A K tr ρ I (.r p :: ds) (dJ K p C J)) (h : R ds C Z Po) (hf : ¬ J.foot p) (hZ : ∀ G H, J.ok G H → Z.ok G H) (zp : ¬ Z.foot p) (hp : ∀ d C', Po d C' → P d (dJ K p C' J)) : EN K (tCall (spN K R) [] X tr) ρ I P := fun G H σ gh en io Q q => hr G H σ gh en io _ fun vs G1 H1 g1 gh1 j1 dvs => by
  rw [List.append_nil]
  exact ⟨G1, ds, p, C, Z, Po, gh1, dvs, j1.1, hZ _ _ j1.2, zp, h, fun d C' po v G2 H2 s k dv => q d _ (hp d C' po) v G2 H2 (g1.trans s.gg) s.gh ⟨k, J.st _ _ _ _ _ (fun a fa (z : a = p) => hf (z ▸ fa)) s j1.2⟩ dv⟩
theorem s_asgN {i : Nat} {P : Dat → Asn → Prop} (h : EN K te ρ I P) (h2 : ∀ d J, P d J → S K us (ρ.set i (some d)) J k) : S K (tSeq (tAsg te (gName i)) us) ρ I k := fun G H σ D gh en io f => h G H σ gh en io _ fun d J p v G1 H1 g1 gh1 j1 dv => h2 d J p G1 H1 _ D gh1 (env_set dv (env_mono g1 en)) j1 (f.mono g1)
/-! ### dicts -/
def valD (kvs : List (Key × PyData)) (k : Key) : Option PyData := (kvs.find? fun kv => decide (kv.1 = k)).map (·.2)
theorem kv_get {G : Hp} {ky : Key} : ∀ {vs : List (Key × V)} {kvs : List (Key × PyData)}, KvAll K G vs kvs → (valD kvs ky = none → valV vs ky = none) ∧ ∀ z, valD kvs ky = some z → ∃ v, valV vs ky = some v ∧ Dp K G v z
  | [], [], _ => ⟨fun _ => rfl, fun z h => by cases h⟩
  | (k1, v1) :: vs, (k2, x2) :: kvs, h => by
    obtain ⟨h1, h2⟩ := h
    have e : k1 = k2 ∧ vs.map (·.1) = kvs.map (·.1) := by simpa using h1
    obtain ⟨rfl, e2⟩ := e
    cases h2 with
    | cons r rr =>
      have ih := kv_get (ky := ky) (vs := vs) (kvs := kvs) ⟨e2, rr⟩
      unfold valD valV at ih ⊢
      by_cases c : k1 = ky
      · rw [List.find?_cons_of_pos (by simpa using c), List.find?_cons_of_pos (by simpa using c)]
        refine ⟨fun z => (by cases z), fun z hz => ?_⟩
        obtain rfl : x2 = z := Option.some.inj hz
        exact ⟨v1, rfl, r⟩
      · rw [List.find?_cons_of_neg (by simpa using c), List.find?_cons_of_neg (by simpa using c)]
        exact ih
  | [], _ :: _, h => by have := h.1; simp at this
  | _ :: _, [], h => by have := h.1; simp at this
theorem kv_mono {G G' : Hp} {vs : List (Key × V)} {kvs : List (Key × PyData)} (e : Same G G') (h : KvAll K G vs kvs) : KvAll K G' vs kvs := ⟨h.1, dp_monos e _ _ h.2⟩
theorem kv_some {G : Hp} {ky : Key} {vs : List (Key × V)} {kvs : List (Key × PyData)} (h : KvAll K G vs kvs) : (valV vs ky).isSome = (valD kvs ky).isSome := by
  obtain ⟨h1, h2⟩ := kv_get (ky := ky) h
  cases e : valD kvs ky with
  | none => rw [h1 e]; rfl
  | some z =>
    obtain ⟨v, hv, _⟩ := h2 z e
    rw [hv]
    rfl
theorem e_kNot {kvs : List (Key × PyData)} {n : Int} (ha : E K ta ρ I (.i n) J) (hb : E K tb ρ J (.k kvs) L) : E K (tDNotIn ta tb) ρ I (.b (!(valD kvs (.inl n)).isSome)) L := fun G H σ gh en io Q q => ha G H σ gh en io _ fun v G1 H1 g1 gh1 j1 dv => hb G1 H1 σ gh1 (env_mono g1 en) j1 _ fun w G2 H2 g2 gh2 j2 dw => by
  obtain rfl := dv_int dv
  obtain ⟨a, vs, rfl, ha, kv⟩ := dw
  refine ⟨a, valV vs (.inl n), rfl, .inl ⟨vs, .inl n, .of (gh2 _ _ ha), rfl, rfl⟩, ?_⟩
  rw [kv_some kv]
  exact q _ G2 H2 (g1.trans g2) gh2 j2 (.bl _)
theorem e_kGet {kvs : List (Key × PyData)} {n : Int} (ha : E K ta ρ I (.k kvs) J) (hb : E K tb ρ J (.i n) L) (h : valD kvs (.inl n) = some x) : E K (tDGet ta tb) ρ I (.d x) L := fun G H σ gh en io Q q => ha G H σ gh en io _ fun v G1 H1 g1 gh1 j1 dv => hb G1 H1 σ gh1 (env_mono g1 en) j1 _ fun w G2 H2 g2 gh2 j2 dw => by
  obtain ⟨a, vs, rfl, ha, kv⟩ := dv
  obtain rfl := dv_int dw
  obtain ⟨u, hu, dp⟩ := (kv_get (ky := .inl n) kv).2 x h
  exact ⟨a, u, rfl, .inl ⟨vs, .inl n, .of ((g2.trans gh2) _ _ ha), rfl, hu.symm⟩, q u G2 H2 (g1.trans g2) gh2 j2 (dp_mono g2 _ _ dp)⟩
/-- a dict that may change -/
def kA (K : PySem.W.Frag) (q : Addr) (kvs : List (Key × PyData)) : Asn := ⟨(· = q), fun G H => G q = none ∧ ∃ vs, H q = some (.dK vs) ∧ KvAll K G vs kvs, fun M G H G2 H2 n s ⟨g, vs, h, r⟩ => ⟨s.fr q _ (n q rfl) h g, vs, s.hh q _ (n q rfl) h, kv_mono s.gg r⟩, fun G H a ⟨_, vs, h, _⟩ (z : a = q) => ⟨.dK vs, by rw [z]; exact h⟩⟩
abbrev kJ (K : PySem.W.Frag) (q : Addr) (kvs : List (Key × PyData)) (J : Asn) : Asn := (kA K q kvs).and J
theorem kv_new {G : Hp} {ky : Key} {z : V} {zd : PyData} {vs : List (Key × V)} {kvs : List (Key × PyData)} (h : KvAll K G vs kvs) (hz : Dp K G z zd) (hn : ky ∉ kvs.map (·.1)) : KvAll K G (putK vs ky z) (kvs ++ [(ky, zd)]) ∧ (putK vs ky z).length = vs.length + 1 := by
  have e : (vs.any fun kv => decide (kv.1 = ky)) = false := by
    rw [Bool.eq_false_iff]
    intro w
    rw [List.any_eq_true] at w
    obtain ⟨kv, hm, hk⟩ := w
    refine hn ?_
    rw [← h.1, ← of_decide_eq_true hk]
    exact List.mem_map.mpr ⟨kv, hm, rfl⟩
  unfold putK
  rw [e, if_neg Bool.false_ne_true]
  refine ⟨⟨?_, ?_⟩, by rw [List.length_append]; rfl⟩
  · rw [List.map_append, List.map_append, h.1]
    rfl
  · rw [List.map_append, List.map_append]
    exact dpa_app h.2 (.cons hz .nil)
theorem kv_len {G : Hp} {vs : List (Key × V)} {kvs : List (Key × PyData)} (h : KvAll K G vs kvs) : vs.length = kvs.length := by
  have := congrArg List.length h.1
  simpa using this
/-- x = {} -/
theorem s_newK {i : Nat} (h : ∀ q, ¬ I.foot q → S K us (ρ.set i (some (.r q))) (kJ K q [] I) k) : S K (tSeq (tAsg tDNewK (gName i)) us) ρ I k := fun G H σ D gh en io f => fun p hp => by
  have s := Stp.newM (o := HO.dK []) gh hp
  have gp : G p = none := gh.free hp
  refine h p (fun z => ?_) G _ _ D s.gh (env_set (d := .r p) rfl en) ⟨⟨gp, [], upd_same, rfl, .nil⟩, Asn.pure_st s io⟩ f
  obtain ⟨o, ho⟩ := I.own G H p io z
  rw [ho] at hp
  cases hp
/-- x[n] = e, a new key -/
theorem s_putK {i : Nat} {q : Addr} {n : Int} {kvs : List (Key × PyData)} (he : E K te ρ (kJ K q kvs J) (.d x) (kJ K q kvs J)) (hi : ρ[i]? = some (some (.r q))) (hb : E K tb ρ (kJ K q kvs J) (.i n) (kJ K q kvs J)) (hn : (.inl n : Key) ∉ kvs.map (·.1)) (hl : kvs.length < 100000) (hf : ¬ J.foot q) :
    S K (sDPut (tVar i) tb te) ρ (kJ K q kvs J) (.nx ρ (kJ K q (kvs ++ [(.inl n, x)]) J)) := fun G H σ D gh en io f => he G H σ gh en io _ fun v G1 H1 g1 gh1 j1 dv => by
  obtain ⟨o, ho, rfl⟩ := env_get en hi
  refine ⟨.ref q, ho, hb G1 H1 σ gh1 (env_mono g1 en) j1 _ fun w G2 H2 g2 gh2 j2 dw => ?_⟩
  obtain rfl := dv_int dw
  obtain ⟨⟨gq, vs, hq, r⟩, jo⟩ := j2
  have hlen := kv_len r
  refine ⟨q, _, rfl, DPut.k (k := .inl n) hq (Nat.lt_of_lt_of_le (by omega : vs.length < 100000) (by rw [sizeLine_eq]; decide)), ?_⟩
  have st := Stp.store (o := HO.dK (putK vs (.inl n) v)) gh2 gq hq
  exact f G2 _ σ (g1.trans g2) st.gh (env_mono (g1.trans g2) en) ⟨⟨gq, _, upd_same, (kv_new r (dp_mono g2 _ _ dv) hn).1⟩, J.st _ _ _ _ _ (fun a fa (z : a = q) => hf (z ▸ fa)) st jo⟩
/-- the dict at q changes no more -/
theorem s_freezeK {i : Nat} {q : Addr} {kvs : List (Key × PyData)} (hi : ρ[i]? = some (some (.r q))) (hf : ¬ J.foot q) (hs : S K ts (ρ.set i (some (.k kvs))) J k) : S K ts ρ (kJ K q kvs J) k := fun G H σ D gh en io f => by
  obtain ⟨⟨gq, vs, hq, r⟩, jo⟩ := io
  have st := Stp.frz gh gq hq
  exact hs _ H σ D st.gh (env_putK (z := .k kvs) ⟨q, vs, rfl, upd_same, kv_mono st.gg r⟩ (env_mono st.gg en) hi) (J.st _ _ _ _ _ (fun a fa (z : a = q) => hf (z ▸ fa)) st jo) (f.mono st.gg)
def kvsOf (ks : List Int) (es : List PyData) : List (Key × PyData) := (ks.zip es).map fun p => (.inl p.1, p.2)
theorem kvs_keys {ks : List Int} {es : List PyData} (h : ks.length = es.length) : (kvsOf ks es).map (·.1) = ks.map Sum.inl := by
  unfold kvsOf
  rw [List.map_map]
  show (ks.zip es).map (fun p => (Sum.inl p.1 : Key)) = _
  have e := List.map_fst_zip (l₁ := ks) (l₂ := es) (by omega)
  calc (ks.zip es).map (fun p => (Sum.inl p.1 : Key)) = ((ks.zip es).map Prod.fst).map Sum.inl := by rw [List.map_map]; rfl
    _ = ks.map Sum.inl := by rw [e]
theorem kvs_snoc {ks : List Int} {es : List PyData} {i : Nat} {n : Int} {y : PyData} (h1 : ks[i]? = some n) (h2 : es[i]? = some y) : kvsOf (ks.take (i + 1)) (es.take (i + 1)) = kvsOf (ks.take i) (es.take i) ++ [(.inl n, y)] := by
  unfold kvsOf
  have a1 : i < ks.length := (List.getElem?_eq_some_iff.mp h1).1
  have a2 : i < es.length := (List.getElem?_eq_some_iff.mp h2).1
  rw [List.take_add_one, List.take_add_one, h1, h2, show (some n).toList = [n] from rfl, show (some y).toList = [y] from rfl, List.zip_append (by rw [List.length_take, List.length_take]; omega), List.map_append]
  rfl
/-- {k: e for ..}, keys that are numbers, each once -/
theorem e_dcW {wi : TI} {g : TG} {tk : TE} {vs : List Nat} {n : Nat} {xs : Nat → PyData} {ks : List Int} {es : List PyData} (hl : IW K wi ρ I n xs I) (hk : ks.length = n) (hn : es.length = n) (hz : n ≤ 100000) (nd : ks.Nodup)
    (he : ∀ i m y, i < n → ks[i]? = some m → es[i]? = some y → ∃ ρ', GW K g vs (xs i) (wipeR ρ vs) ρ' ∧ (∀ I', E K tk ρ' I' (.i m) I') ∧ ∀ I', E K te ρ' I' (.d y) I') : E K (tDc wi g tYes tk te vs) ρ I (.k (kvsOf ks es)) I := fun G H σ gh en io Q q =>
  hl G H σ gh en io _ fun Ji G1 H1 g1 gh1 j1 wk D hD => by
    have gD : G1 D = none := gh1.free hD
    have nD : ∀ a, I.foot a → ¬ a = D := fun a fa z => by
      obtain ⟨o, ho⟩ := I.own G1 H1 a j1 fa
      rw [z, hD] at ho
      cases ho
    have st0 := Stp.newM (o := HO.dK []) gh1 hD
    refine ⟨fun i m H' => m = n - i ∧ i ≤ n ∧ ∃ G', Same G1 G' ∧ Same G' H' ∧ I.ok G' H' ∧ (kA K D (kvsOf (ks.take i) (es.take i))).ok G' H' ∧ Stp (· = D) G1 (upd H1 D (.dK [])) G' H', ⟨n, rfl, Nat.zero_le _, G1, Same.refl _, st0.gh, Asn.pure_st st0 j1, ⟨gD, [], upd_same, rfl, .nil⟩, Stp.refl st0.gh⟩, fun i m H' hw => ?_⟩
    obtain ⟨rfl, hi, G', a1, a2, a3, a4, a5⟩ := hw
    by_cases c : i < n
    · have h1 : ks[i]? = some (ks[i]'(by omega)) := List.getElem?_eq_getElem (by omega)
      have h2 : es[i]? = some (es[i]'(by omega)) := List.getElem?_eq_getElem (by omega)
      obtain ⟨ρ', hg, hky, hel⟩ := he i _ _ c h1 h2
      refine .inr ⟨wk.go i G' H' c a1 a2, fun H2 => ∃ G2, Same G1 G2 ∧ Same G2 H2 ∧ I.ok G2 H2 ∧ (kA K D (kvsOf (ks.take (i + 1)) (es.take (i + 1)))).ok G2 H2 ∧ Stp (· = D) G1 (upd H1 D (.dK [])) G2 H2, fun H2 z => ⟨n - (i + 1), by omega, rfl, c, z⟩, fun v H2 y => ?_⟩
      obtain ⟨G2, st, dp⟩ := wk.yld i G' H' v H2 c a1 a2 y
      refine hg G2 H2 _ v _ st.gh (env_wipe (env_mono ((g1.trans a1).trans st.gg) en) vs) dp fun σ' en' hw => ⟨hw.trans (wipe_wipe σ vs), ?_⟩
      refine (show ∀ {F : Bool → Hp → Prop}, F true H2 → tYes σ' H2 F from fun h => h) ?_
      dsimp only
      rw [if_pos rfl]
      refine hky (((kA K D (kvsOf (ks.take i) (es.take i))).and I).and (Asn.since (· = D) G1 (upd H1 D (.dK [])))) G2 H2 _ st.gh en' ⟨⟨Asn.pure_st st a4, Asn.pure_st st a3⟩, a5.trans (st.wide fun _ z => z.elim)⟩ _ fun kv G3 H3 g3 gh3 j3 dk => ?_
      refine hel _ G3 H3 _ gh3 (env_mono g3 en') j3 _ fun y G4 H4 g4 gh4 j4 dy => ?_
      obtain rfl := dv_int dk
      obtain ⟨⟨⟨gq, ws, hq, r2⟩, i3⟩, st3⟩ := j4
      have hlen := kv_len r2
      have nk : (.inl (ks[i]'(by omega)) : Key) ∉ (kvsOf (ks.take i) (es.take i)).map (·.1) := by
        rw [kvs_keys (by rw [List.length_take, List.length_take]; omega)]
        intro z
        obtain ⟨m, hm, e⟩ := List.mem_map.mp z
        cases e
        obtain ⟨j, hj, e⟩ := List.mem_take_iff_getElem.mp hm
        have hji : j < i := by omega
        exact absurd ((List.getElem_inj (h₀ := by omega) (h₁ := by omega) nd).mp e) (by omega)
      have st4 := Stp.store (o := HO.dK (putK ws (.inl (ks[i]'(by omega))) y)) gh4 gq hq
      refine ⟨ws, .inl (ks[i]'(by omega)), rfl, hq, ?_, G4, ((a1.trans st.gg).trans g3).trans g4, st4.gh, I.st _ _ _ _ _ nD st4 i3, ⟨gq, _, upd_same, ?_⟩, st3.trans st4⟩
      · rw [hlen]
        unfold kvsOf
        rw [List.length_map, List.length_zip, List.length_take, List.length_take]
        exact Nat.lt_of_le_of_lt (Nat.le_trans (Nat.min_le_left _ _) (Nat.min_le_left _ _)) (Nat.lt_of_le_of_lt (show i ≤ 100000 by omega) (by rw [sizeLine_eq]; decide))
      · rw [kvs_snoc h1 h2]
        exact (kv_new r2 dy nk).1
    · have ei : i = n := by omega
      subst ei
      obtain ⟨gq, ws, hq, r2⟩ := a4
      have st : Stp (· = D) G' H' (upd G' D (.dK ws)) H' := Stp.frz a2 gq hq
      refine .inl ⟨wk.stop G' H' a1 a2, q _ (upd G' D (.dK ws)) H' ((g1.trans a1).trans st.gg) st.gh (I.st _ _ _ _ _ nD st a3) ⟨D, ws, rfl, upd_same, ?_⟩⟩
      rw [show ks = ks.take i by rw [List.take_of_length_le (by omega)], show es = es.take i by rw [List.take_of_length_le (by omega)]]
      exact kv_mono st.gg r2
/-! ### tuples -/
theorem e_catT {xs ys : List PyData} (ha : E K ta ρ I (.t xs) J) (hb : E K tb ρ J (.t ys) L) (hl : xs.length + ys.length ≤ 100000) : E K (tOp (rCatA K) ta tb) ρ I (.t (xs ++ ys)) L :=
  e_op ha hb fun G H v w gh lo dx dy Q q => by
    cases dx with
    | tup s r =>
      cases dy with
      | tup s2 r2 =>
        rename_i a vs b ws
        have l1 := dpa_len r
        have l2 := dpa_len r2
        refine ⟨a, b, vs, ws, rfl, rfl, same_t gh s, same_t gh s2, by rw [l1, l2]; exact sz_of hl, fun e => ?_, fun _ e => ?_, fun _ _ p hp => ?_⟩
        · subst e
          cases r
          exact q _ G H (Same.refl _) gh lo (.tup s2 r2)
        · subst e
          cases r2
          exact q _ G H (Same.refl _) gh lo (by rw [List.append_nil]; exact .tup s r)
        · have st := Stp.new (o := .tup (vs ++ ws)) gh hp
          exact q _ _ _ st.gg st.gh (Asn.pure_st st lo) (.tup (.inl (.inl upd_same)) (dpa_app (dp_monos st.gg _ _ r) (dp_monos st.gg _ _ r2)))
theorem e_tTo {j : Nat} (ha : E K ta ρ I (.t ds) I) (hb : E K tb ρ I (.i (j : Nat)) I) : E K (tSl (rSlA K) ta tNoPart (tPart tb)) ρ I (.t (ds.take j)) I := fun G H σ gh en io Q q =>
  ha G H σ gh en io _ fun v G1 H1 g1 gh1 j1 dv => hb G1 H1 σ gh1 (env_mono g1 en) j1 _ fun w G2 H2 g2 gh2 j2 dw => by
    obtain rfl := dv_int dw
    cases dv with
    | tup s r =>
      rename_i a xs
      have l1 := dpa_len r
      refine ⟨_, rfl, a, xs, rfl, same_t (g2.trans gh2) s, fun h => ?_, fun _ p hp => ?_⟩
      · rw [HT.sIx_none, HT.sIx_nat] at h
        have e : ds.take j = ds := List.take_of_length_le (by omega)
        exact q _ G2 H2 (g1.trans g2) gh2 j2 (by rw [e]; exact .tup (same_t g2 s) (dp_monos g2 _ _ r))
      · rw [cut_to (α := V)]
        have st := Stp.new (o := .tup (xs.take j)) gh2 hp
        exact q _ _ _ ((g1.trans g2).trans st.gg) st.gh (Asn.pure_st st j2) (.tup (.inl (.inl upd_same)) (dpa_take j (dp_monos (g2.trans st.gg) ds xs r)))
theorem e_tFrom {j : Nat} (ha : E K ta ρ I (.t ds) I) (hb : E K tb ρ I (.i (j : Nat)) I) : E K (tSl (rSlA K) ta (tPart tb) tNoPart) ρ I (.t (ds.drop j)) I := fun G H σ gh en io Q q =>
  ha G H σ gh en io _ fun v G1 H1 g1 gh1 j1 dv => hb G1 H1 σ gh1 (env_mono g1 en) j1 _ fun w G2 H2 g2 gh2 j2 dw => by
    obtain rfl := dv_int dw
    cases dv with
    | tup s r =>
      rename_i a xs
      have l1 := dpa_len r
      refine ⟨_, rfl, a, xs, rfl, same_t (g2.trans gh2) s, fun h => ?_, fun _ p hp => ?_⟩
      · rw [HT.sIx_none, HT.sIx_nat] at h
        by_cases c : j = 0
        · subst c
          exact q _ G2 H2 (g1.trans g2) gh2 j2 (by rw [List.drop_zero]; exact .tup (same_t g2 s) (dp_monos g2 _ _ r))
        · have e0 : ds = [] := by
            cases ds with
            | nil => rfl
            | cons x y => rw [List.length_cons] at l1; omega
          subst e0
          exact q _ G2 H2 (g1.trans g2) gh2 j2 (by rw [List.drop_nil]; exact .tup (same_t g2 s) (dp_monos g2 _ _ r))
      · rw [cut_from]
        have st := Stp.new (o := .tup (xs.drop j)) gh2 hp
        exact q _ _ _ ((g1.trans g2).trans st.gg) st.gh (Asn.pure_st st j2) (.tup (.inl (.inl upd_same)) (dpa_drop j (dp_monos (g2.trans st.gg) ds xs r)))
/-! ### loops over the items of a list of one's own -/
theorem s_loopR {α β : Type} {wi : TI} {g : TG} {bs : List β} {f : Nat → β → PyData} {xs : Nat → PyData} {n : Nat} (W : Nat → List β → α → Prop) (P : α → Rho) (V : α → Asn) (a0 : α) (w0 : W 0 bs a0) (hl : IW K wi ρ I n xs (V a0)) (hn : n = bs.length) (hx : ∀ i z, bs[i]? = some z → xs i = f i z) (h0 : ρ = P a0)
    (step : ∀ i z rest a, W i (z :: rest) a → ∃ ρ', GJ K g (f i z) (P a) ρ' ∧ ((∃ a', W (i + 1) rest a' ∧ S K ts ρ' (V a) (.nx (P a') (V a'))) ∨ (k.ret ∧ S K ts ρ' (V a) k)))
    (done : ∀ a i, W i [] a → S K us (P a) (V a) k) : S K (tSeq (tFor wi g ts) us) ρ I k := by
  subst hn
  refine s_loop (fun i a => W i (bs.drop i) a) P V a0 w0 hl h0 (fun i a hi w => ?_) fun a w => ?_
  · have e : bs.drop i = bs[i] :: bs.drop (i + 1) := List.drop_eq_getElem_cons hi
    rw [e] at w
    rw [hx i _ (List.getElem?_eq_getElem hi)]
    exact step i _ _ a w
  · rw [List.drop_of_length_le (Nat.le_refl _)] at w
    exact done a _ w
theorem s_loopR1 {α β : Type} {wi : TI} {g : TG} {bs : List β} {f : Nat → β → PyData} {xs : Nat → PyData} {n : Nat} (W : Nat → List β → α → Prop) (P : α → Rho) (V : α → Asn) (a0 : α) (w0 : W 0 bs a0) (hl : IW K wi ρ I n xs (V a0)) (hn : n = bs.length) (hx : ∀ i z, bs[i]? = some z → xs i = f i z) (h0 : ρ = P a0)
    (step : ∀ i z rest a, W i (z :: rest) a → ∃ ρ', GJ K g (f i z) (P a) ρ' ∧ ((∃ a', W (i + 1) rest a' ∧ S K ts ρ' (V a) (.nx (P a') (V a'))) ∨ (k.ret ∧ S K ts ρ' (V a) k)))
    (done : ∀ a i, W i [] a → S K tNext (P a) (V a) k) : S K (tFor wi g ts) ρ I k := fun G H σ D gh en io f => s_loopR (us := tNext) W P V a0 w0 hl hn hx h0 step done G H σ D gh en io f
theorem at0_map {β : Type} {f : β → PyData} {bs : List β} {i : Nat} {z : β} (h : bs[i]? = some z) : at0 (bs.map f) i = f z := by
  unfold at0
  rw [List.getD_eq_getElem?_getD, List.getElem?_map, h]
  rfl
theorem getElem?_of_map {β : Type} {f : β → PyData} {bs : List β} {i : Nat} {y : PyData} (h : (bs.map f)[i]? = some y) : ∃ z, bs[i]? = some z ∧ y = f z := by
  rw [List.getElem?_map, Option.map_eq_some_iff] at h
  obtain ⟨z, hz, rfl⟩ := h
  exact ⟨z, hz, rfl⟩
theorem e_borrowD {i : Nat} {p q : Addr} {C : DS} (hi : ρ[i]? = some (some (.r q))) (hx : flatD x = true) (h : ∀ I', E K te (ρ.set i (some (.d (.list ds)))) I' (.d x) I') : E K te ρ (dJ K p C (lJ K q ds J)) (.d x) (dJ K p C (lJ K q ds J)) :=
  e_post (J := lJ K q ds (dJ K p C J)) (fun G H z => ⟨z.2.1, z.1, z.2.2⟩) (e_pre (I' := lJ K q ds (dJ K p C J)) (fun G H z => ⟨z.2.1, z.1, z.2.2⟩) (e_borrow hi hx h))
theorem e_borrowD2 {i : Nat} {p q q2 : Addr} {ds2 : List PyData} {C : DS} (hi : ρ[i]? = some (some (.r q2))) (hx : flatD x = true) (h : ∀ I', E K te (ρ.set i (some (.d (.list ds2)))) I' (.d x) I') : E K te ρ (dJ K p C (lJ K q ds (lJ K q2 ds2 J))) (.d x) (dJ K p C (lJ K q ds (lJ K q2 ds2 J))) :=
  e_post (J := lJ K q2 ds2 (dJ K p C (lJ K q ds J))) (fun G H z => ⟨z.2.1, z.2.2.1, z.1, z.2.2.2⟩) (e_pre (I' := lJ K q2 ds2 (dJ K p C (lJ K q ds J))) (fun G H z => ⟨z.2.2.1, z.1, z.2.1, z.2.2.2⟩) (e_borrow hi hx h))
/-- x.append(e), e may draw -/
theorem s_appN {i : Nat} {q : Addr} (he : E K te ρ (lJ K q ds J) (.d x) (lJ K q ds L)) (hi : ρ[i]? = some (some (.r q))) (hl : ds.length < 100000) (hf : ¬ L.foot q) : S K (tDrop (tBM K "list" rAppend (tVar i) (tCons te tNil))) ρ (lJ K q ds J) (.nx ρ (lJ K q (ds ++ [x]) L)) := fun G H σ D gh en io f => by
  obtain ⟨v, hv, rfl⟩ := env_get en hi
  have io' := io
  obtain ⟨⟨gq, vs, hq, r⟩, jo⟩ := io
  refine ⟨.ref q, hv, .inl ⟨rfl, _, .inl (.inl hq)⟩, he G H σ gh en io' _ fun v G1 H1 g1 gh1 j1 dv => ?_⟩
  obtain ⟨⟨gq1, vs1, hq1, r1⟩, jo1⟩ := j1
  have s := Stp.store (o := HO.lst (vs1 ++ [v])) gh1 gq1 hq1
  refine ⟨q, vs1, v, rfl, rfl, hq1, ?_, ?_⟩
  · rw [dpa_len r1]
    exact Nat.lt_of_lt_of_le hl (by decide)
  · exact f G1 _ σ g1 s.gh (env_mono g1 en) ⟨⟨gq1, _, upd_same, dpa_app r1 (.cons dv .nil)⟩, L.st _ _ _ _ _ (fun a fa (z : a = q) => hf (z ▸ fa)) s jo1⟩
/-- x.append(e), e may draw, the list told behind the drawing list -/
theorem s_appD {i : Nat} {p q : Addr} {C C' : DS} (he : E K te ρ (dJ K p C (lJ K q ds J)) (.d x) (dJ K p C' (lJ K q ds J))) (hi : ρ[i]? = some (some (.r q))) (hl : ds.length < 100000) (hf : ¬ J.foot q) (hp : q ≠ p) : S K (tDrop (tBM K "list" rAppend (tVar i) (tCons te tNil))) ρ (dJ K p C (lJ K q ds J)) (.nx ρ (dJ K p C' (lJ K q (ds ++ [x]) J))) :=
  s_pre (I' := lJ K q ds (dJ K p C J)) (fun G H z => ⟨z.2.1, z.1, z.2.2⟩) (s_post (J := lJ K q (ds ++ [x]) (dJ K p C' J)) (fun G H z => ⟨z.2.1, z.1, z.2.2⟩) (s_appN (L := dJ K p C' J) (e_post (J := dJ K p C' (lJ K q ds J)) (fun G H z => ⟨z.2.1, z.1, z.2.2⟩) (e_pre (I' := dJ K p C (lJ K q ds J)) (fun G H z => ⟨z.2.1, z.1, z.2.2⟩) he)) hi hl fun z => z.elim (fun e => hp e) hf))
/-! ### loops whose next state is told by a wish alone -/
theorem s_ne {P : Rho → Asn → Prop} (h : S K ts ρ I (.nx ρ1 J)) (p : P ρ1 J) : S K ts ρ I (.ne P) := fun G H σ D gh en io f => h G H σ D gh en io fun G2 H2 σ2 a b c d => f ρ1 J p G2 H2 σ2 a b c d
theorem s_loopN {α : Type} {wi : TI} {g : TG} {n : Nat} {xs : Nat → PyData} (W : Nat → α → Prop) (P : α → Rho) (V : α → Asn) (a0 : α) (w0 : W 0 a0) (hl : IW K wi ρ I n xs (V a0)) (h0 : ρ = P a0)
    (step : ∀ i a, i < n → W i a → ∃ ρ', GJ K g (xs i) (P a) ρ' ∧ (S K ts ρ' (V a) (.ne fun r L => ∃ a', W (i + 1) a' ∧ r = P a' ∧ L = V a') ∨ (k.ret ∧ S K ts ρ' (V a) k)))
    (done : ∀ a, W n a → S K us (P a) (V a) k) : S K (tSeq (tFor wi g ts) us) ρ I k := fun G H σ D gh en io f => by
  show tFor wi g ts { D with nx := fun σ' H' => us D σ' H' } σ H
  refine hl G H σ gh en io _ fun Ji G1 H1 g1 gh1 j1 wk => ?_
  refine ⟨fun i m σ' H' => m = n - i ∧ i ≤ n ∧ ∃ a G', W i a ∧ Same G1 G' ∧ Same G' H' ∧ EnvD K G' σ' (P a) ∧ (V a).ok G' H', ⟨n, rfl, Nat.zero_le _, a0, G1, w0, Same.refl _, gh1, h0 ▸ env_mono g1 en, j1⟩, fun i m σ' H' hw => ?_⟩
  obtain ⟨rfl, hi, a, G', wa, a1, a2, a3, a4⟩ := hw
  by_cases c : i < n
  · obtain ⟨ρ', hg, hs⟩ := step i a c wa
    rcases hs with hs | ⟨hk, hs⟩
    · refine .inr ⟨wk.go i G' H' c a1 a2, fun σ2 H2 => ∃ a' G2, W (i + 1) a' ∧ Same G1 G2 ∧ Same G2 H2 ∧ EnvD K G2 σ2 (P a') ∧ (V a').ok G2 H2, fun σ2 H2 ⟨a', G2, wa', b1, b2, b3, b4⟩ => ⟨n - (i + 1), by omega, rfl, c, a', G2, wa', b1, b2, b3, b4⟩, fun v H2 y => ?_⟩
      obtain ⟨G2, st, dp⟩ := wk.yld i G' H' v H2 c a1 a2 y
      exact hg G2 H2 σ' v _ st.gh (env_mono st.gg a3) dp fun σ2 en2 => hs G2 H2 σ2 _ st.gh en2 (Asn.pure_st st a4) fun r L ⟨a', wa', e1, e2⟩ G3 H3 σ3 g3 gh3 en3 j3 => ⟨a', G3, wa', (a1.trans st.gg).trans g3, gh3, e1 ▸ en3, e2 ▸ j3⟩
    · refine .inr ⟨wk.go i G' H' c a1 a2, fun _ _ => False, fun _ _ z => z.elim, fun v H2 y => ?_⟩
      obtain ⟨G2, st, dp⟩ := wk.yld i G' H' v H2 c a1 a2 y
      exact hg G2 H2 σ' v _ st.gh (env_mono st.gg a3) dp fun σ2 en2 => hs G2 H2 σ2 _ st.gh en2 (Asn.pure_st st a4) (hk.other (D := D) rfl (((f.mono g1).mono a1).mono st.gg))
  · have e : i = n := by omega
    subst e
    exact .inl ⟨wk.stop G' H' a1 a2, done a wa G' H' σ' D a2 a3 a4 ((f.mono g1).mono a1)⟩
/-- d.get(n, y) -/
theorem e_kGetOr {kvs : List (Key × PyData)} {n : Int} {z : PyData} (ha : E K ta ρ I (.k kvs) J) (hb : E K tb ρ J (.i n) L) (hc : E K tc ρ L (.d y) N) (h : (valD kvs (.inl n)).getD y = z) : E K (tDGet2 ta tb tc) ρ I (.d z) N := fun G H σ gh en io Q q => ha G H σ gh en io _ fun v G1 H1 g1 gh1 j1 dv => by
  obtain ⟨a, vs, rfl, ha, kv⟩ := dv
  refine ⟨a, rfl, .inl ⟨vs, .of (gh1 _ _ ha)⟩, hb G1 H1 σ gh1 (env_mono g1 en) j1 _ fun w G2 H2 g2 gh2 j2 dw => hc G2 H2 σ gh2 (env_mono (g1.trans g2) en) j2 _ fun u G3 H3 g3 gh3 j3 du => ?_⟩
  obtain rfl := dv_int dw
  refine ⟨valV vs (.inl n), .inl ⟨vs, .inl n, .of (((g2.trans g3).trans gh3) _ _ ha), rfl, rfl⟩, ?_⟩
  obtain ⟨h1, h2⟩ := kv_get (ky := .inl n) kv
  cases e : valD kvs (.inl n) with
  | none =>
    rw [e] at h
    obtain rfl : y = z := h
    rw [h1 e]
    exact q u G3 H3 ((g1.trans g2).trans g3) gh3 j3 du
  | some x =>
    rw [e] at h
    obtain rfl : x = z := h
    obtain ⟨v, hv, dp⟩ := h2 x e
    rw [hv]
    exact q v G3 H3 ((g1.trans g2).trans g3) gh3 j3 (dp_mono (g2.trans g3) _ _ dp)
end
end PL
/-! walks over zip of two -/
namespace PL
open PySem PySem.Spec PyProof.Rows L2 FR GX PX RZ
end PL
set_option exponentiation.threshold 20000
/-! rules of the hand layer: lcm, tuple(list) as it stands, dict of a tuple of pairs, sorted of tuples of data -/
namespace L2
open PySem PySem.Spec PyProof.Rows
section
variable {X : Cx}
/-! ### lcm -/
/-! ### tuple(xs) of a list, as it stands -/
theorem cr_tupleU : CallR X (.type "tuple") (fun vs H Q => ∃ p ys, vs = [.ref p] ∧ SqL X.K H p ys ∧ ∀ l o, H l = none → o.dict = none → Q (.ref l) (upd H l (.frz o (.tup ys)))) := by
  intro pins s σ H vs us Q I r h
  obtain ⟨p, ys, rfl, hq, q⟩ := h
  obtain ⟨u, rfl, rx⟩ := vals1 r
  cases rx
  obtain ⟨its, rr, pl, hz⟩ := I.list hq
  have hl := rr.length
  refine call_tuple_list pl.isList (fun hp kp => ?_) (by simp only [List.size_toArray] <;> omega)
  have J1 : Inv X pins σ H { s with heap := hp } := I.kept (t' := s.toks) kp
  have hg : (hp.push { cls := .type "tuple", data := .seq its.toArray }).get? hp.objs.size = some { cls := .type "tuple", data := .seq its.toArray } := Heap.get?_push_size _ rfl
  exact ⟨.ref hp.objs.size, _, J1.laid (t' := s.toks) (fun b o e => Heap.get?_push_of_some _ e) (Nat.le_refl _) (show ObjOk X.prog X.w _ _ _ (.frz { cls := .type "tuple", data := .seq its.toArray } (.tup ys)) from ⟨hg, hz, its, rr, IsTup.new _ _⟩), rfl, q _ _ (J1.hok.fresh (Nat.le_refl _)) rfl⟩
/-! ### dict(xs) of a tuple of pairs -/
theorem pairs_both {pins : List (Addr × Obj)} {σ : St} {H : Hp} {s : Shared} (I : Inv X pins σ H s) : ∀ {ps : List Addr} {kvs : List (Key × V)}, Paired (fun p kv => SqT X.K H p [kV kv.1, kv.2]) ps kvs →
    ∃ (prs : List (Key × Value)) (uv : List (Value × Value)), KV kvs prs ∧ prs.length = ps.length ∧ uv.length = ps.length ∧ (∀ (j : Nat) (k v : Value), uv[j]? = some (k, v) → (∃ b, ps[j]? = some b ∧ IsTup s.heap b #[k, v]) ∧ ∃ q, prs[j]? = some (q, v) ∧ keyIs q k = true)
  | _, _, .nil => ⟨[], [], .nil, rfl, rfl, fun j k v e => by simp at e⟩
  | _, _, .cons (a := p) (b := kv) h t => by
    obtain ⟨prs, uv, rk, l1, l2, all⟩ := pairs_both I t
    obtain ⟨its, rr, ht, _⟩ := I.tuple h
    obtain ⟨u, y, rfl, ru, ry⟩ := vals2 rr
    refine ⟨(kv.1, y) :: prs, (u, y) :: uv, .cons ⟨rfl, ry⟩ rk, congrArg Nat.succ l1, congrArg Nat.succ l2, fun j k v e => ?_⟩
    cases j with
    | zero =>
      obtain ⟨rfl, rfl⟩ := Prod.mk.inj (Option.some.inj e)
      exact ⟨⟨p, rfl, ht⟩, _, rfl, kV_is (P := X.prog) (w := X.w) ru⟩
    | succ j =>
      obtain ⟨⟨b, e1, e2⟩, e3⟩ := all j k v (by simpa using e)
      exact ⟨⟨b, by simpa using e1, e2⟩, by simpa using e3⟩
def rDictU (K : PySem.W.Frag) : List V → Hp → VK → Prop := fun xs H Q => ∃ (a : Addr) (o : Obj) (ps : List Addr) (kvs : List (Key × V)), xs = [.ref a] ∧ H a = some (.frz o (.tup (ps.map V.ref))) ∧ o.dict = none ∧ Paired (fun p kv => SqT K H p [kV kv.1, kv.2]) ps kvs ∧ ∀ p, H p = none → Q (.ref p) (upd H p (.dK (mergeK [] kvs)))
theorem cr_dictU (hc : X.calm = true) : CallR X (.type "dict") (rDictU X.K) := by
  intro pins s σ H xs us Q I r h
  obtain ⟨a, o, ps, kvs, rfl, ha, hd, hp, q⟩ := h
  obtain ⟨u, rfl, rx⟩ := vals1 r
  cases rx
  obtain ⟨hg, hz, its, rr, hT⟩ := (show ObjOk X.prog X.w H s.heap a (.frz o (.tup (ps.map V.ref))) from I.hok a _ ha)
  obtain rfl := refs_at rr
  obtain ⟨o2, hg2, hcl, n, hdat⟩ := hT
  rw [hg] at hg2
  obtain rfl := Option.some.inj hg2
  obtain ⟨prs, uv, rk, l1, l2, all⟩ := pairs_both I hp
  rw [List.length_map] at hz
  refine PySem.call_dict_pairs (knd := mixKind X.prog X.w) (kvs := prs) (PySem.PairArg.tuple a (ps.map Value.ref).toArray (fun j => ps.getD j 0) uv) (I.ok.hd hc) ⟨⟨o, n, hg, hcl, hd, hdat⟩, by simp [l2], fun j k v e => ?_⟩ ⟨by omega, fun j k v e => ?_⟩ (by omega) fun hp2 tk hD hk => ?_
  · obtain ⟨⟨b, e1, e2⟩, _⟩ := all j k v e
    have e3 : ps.getD j 0 = b := by rw [List.getD_eq_getElem?_getD, e1]; rfl
    dsimp only
    rw [e3]
    exact ⟨by simp [e1], .inl e2⟩
  · obtain ⟨_, w, e1, e2⟩ := all j k v e
    exact ⟨w, e1, e2⟩
  · have hm : (s.heap.objs.size == sysModules) = false := beq_eq_false_iff_ne.mpr (Nat.ne_of_gt I.big)
    have hlen : (mergeK [] kvs).length ≤ sizeLine := by
      have h1 := length_mergeK kvs []
      have h2 := rk.length
      rw [List.length_nil] at h1
      omega
    exact ⟨.ref s.heap.objs.size, _, I.laid (t' := tk) (fun b u e => hk b u (by simp) e) (Nat.le_refl _) (show ObjOk X.prog X.w _ _ _ (.dK (mergeK [] kvs)) from ⟨hlen, hm, merged [] prs, KV.merge rk .nil, hD⟩), rfl, q _ (I.hok.fresh (Nat.le_refl _))⟩
end
end L2
/-! ### sorted(xs), xs a list of tuples of data, told by a key of three ints -/
namespace SrtD
open PySem PySem.Spec PyProof.Rows SrtO Srt
abbrev K3 := Int × Int × Int
def lex3 (p q : K3) : Bool := decide (p.1 < q.1 ∨ (p.1 = q.1 ∧ (p.2.1 < q.2.1 ∨ (p.2.1 = q.2.1 ∧ p.2.2 < q.2.2))))
/-- how two rows are told apart: by ints, or not at all -/
def lexL : List PyData → List PyData → Option Bool
  | [], [] => some false
  | x :: xs, y :: ys => if PyData.eqv x y = true then lexL xs ys else match x, y with
    | .int a, .int b => some (decide (a < b))
    | _, _ => none
  | _, _ => none
section
variable {prog : Program} {w : World} {A : Around} {s : Shared} {Q : Bool → Shared → Prop}
theorem kat_data (hu : A.units + 64 < cLine) : ∀ {ds es : List PyData} {us ws : List Value} {as bs : List Addr} {fin c : Bool} (i : Nat), ReadsAll s.heap us ds as → ReadsAll s.heap ws es bs → (∀ x ∈ ds, SeqAt.shaped x = true) → (∀ x ∈ es, SeqAt.shaped x = true) → fin = decide (us.length < ws.length) → lexL ds es = some c → Q c s → PySem.W.KatLex prog w A true fin Q (us.zip ws) i s
  | [], [], _, _, _, _, fin, c, i, .nil, .nil, _, _, hf, hc, hq => by
    obtain rfl := Option.some.inj hc
    exact PySem.W.kat_nil (by rw [hf]; exact hq)
  | [], _ :: _, _, _, _, _, _, _, _, _, _, _, _, _, hc, _ => by cases hc
  | _ :: _, [], _, _, _, _, _, _, _, _, _, _, _, _, hc, _ => by cases hc
  | d :: ds, e :: es, _, _, _, _, fin, c, i, .cons (v := u) (vs := us) r1 s1, .cons (v := v) (vs := ws) r2 s2, hd, he, hf, hc, hq => by
    have sd := hd d List.mem_cons_self
    have se := he e List.mem_cons_self
    rw [List.zip_cons_cons]
    refine PySem.W.kat_cons (SeqAt.eqAt_reads d e A s u v _ _ r1 r2 (SeqAt.canLay_of_shaped sd) (SeqAt.canLay_of_shaped se) (SeqAt.room_of_shaped sd hu) prog w _ _ ?_)
    unfold lexL at hc
    refine PySem.W.kat_go (fun e1 => ?_) (fun e1 => ?_)
    · rw [if_pos e1] at hc
      exact PySem.W.kat_yes (kat_data hu (i + 1) s1 s2 (fun x hx => hd x (List.mem_cons_of_mem _ hx)) (fun x hx => he x (List.mem_cons_of_mem _ hx)) (by rw [hf, decide_eq_decide, List.length_cons, List.length_cons]; omega) hc hq)
    · rw [if_neg (by rw [e1]; decide)] at hc
      obtain ⟨a, rfl⟩ : ∃ a, d = .int a := by cases d <;> first | exact ⟨_, rfl⟩ | simp at hc
      obtain ⟨b, rfl⟩ : ∃ b, e = .int b := by cases e <;> first | exact ⟨_, rfl⟩ | simp at hc
      have hc : decide (a < b) = c := by simpa using hc
      subst hc
      cases r1
      cases r2
      exact PySem.W.kat_no (TS.oneLt_ints _ hq)
end
end SrtD
/-! ### rows: tuples that begin with three ints -/
namespace SrtD
open PySem PySem.Spec PyProof.Rows SrtO Srt
def key3 : PyData → K3
  | .tuple (.int a :: .int b :: .int c :: _) => (a, b, c)
  | _ => (0, 0, 0)
def Row3 (d : PyData) : Prop := ∃ (a b c : Int) (r : List PyData), d = .tuple (.int a :: .int b :: .int c :: r) ∧ ∀ x ∈ r, SeqAt.shaped x = true
theorem lexL_self : ∀ (r : List PyData), (∀ x ∈ r, SeqAt.shaped x = true) → lexL r r = some false
  | [], _ => rfl
  | x :: r, h => by
    unfold lexL
    rw [if_pos (SeqAt.eqv_refl x (SeqAt.canLay_of_shaped (h x List.mem_cons_self)))]
    exact lexL_self r fun y hy => h y (List.mem_cons_of_mem _ hy)
theorem eqv_ints {a b : Int} : (PyData.eqv (.int a) (.int b) = true) = (a = b) := by
  simp [PyData.eqv]
theorem lexL_row {a b c a' b' c' : Int} {r r' : List PyData} (h : ∀ x ∈ r, SeqAt.shaped x = true) (hk : (a, b, c) = (a', b', c') → r = r') : lexL (.int a :: .int b :: .int c :: r) (.int a' :: .int b' :: .int c' :: r') = some (lex3 (a, b, c) (a', b', c')) := by
  unfold lex3
  rw [lexL, lexL, lexL]
  simp only [eqv_ints]
  by_cases e1 : a = a'
  · rw [if_pos e1]
    by_cases e2 : b = b'
    · rw [if_pos e2]
      by_cases e3 : c = c'
      · subst e1 e2 e3
        rw [if_pos rfl, ← hk rfl, lexL_self r h]
        congr 1
        symm
        rw [decide_eq_false_iff_not]
        try dsimp only
        omega
      · rw [if_neg e3]
        congr 1
        rw [decide_eq_decide]
        try dsimp only
        omega
    · rw [if_neg e2]
      congr 1
      rw [decide_eq_decide]
      try dsimp only
      omega
  · rw [if_neg e1]
    congr 1
    rw [decide_eq_decide]
    try dsimp only
    omega
def IsRow (h : Heap) (v : Value) (d : PyData) : Prop := Row3 d ∧ ∃ as, Reads h v d as
theorem IsRow.keeps {h h' : Heap} {v : Value} {d : PyData} (p : IsRow h v d) (hk : ∀ b o, h.get? b = some o → h'.get? b = some o) : IsRow h' v d := ⟨p.1, p.2.imp fun _ r => PyProof.Rows.Reads.keeps hk r⟩
abbrev ltR (f : Value → PyData) (v u : Value) : Bool := lex3 (key3 (f v)) (key3 (f u))
section
variable {prog : Program} {w : World} {A : Around} {s : Shared}
theorem row_cmp {vs : List Value} {f : Value → PyData} (hu : A.units + 64 < cLine) (hp : ∀ v ∈ vs, IsRow s.heap v (f v)) (uq : ∀ v ∈ vs, ∀ u ∈ vs, key3 (f v) = key3 (f u) → f v = f u) : Cmp prog w A s (tuples' true) (fun p => p.1 ∈ vs) (lt2 (ltR f)) := by
  intro p q hm hm'
  show wpAny (model prog w) A (keyLt' (tuples' true) p.1 q.1) (fun r s' => s' = s ∧ r = lex3 (key3 (f p.1)) (key3 (f q.1))) (fun _ _ => False) s
  have hq := uq _ hm _ hm'
  obtain ⟨⟨a, b, c, r, e1, s1⟩, as, r1⟩ := hp _ hm
  obtain ⟨⟨a', b', c', r', e2, s2⟩, bs, r2⟩ := hp _ hm'
  generalize p.1 = v at *
  generalize q.1 = u at *
  rw [e1, e2] at hq ⊢
  rw [e1] at r1
  rw [e2] at r2
  have hl := lexL_row (r' := r') (a' := a') (b' := b') (c' := c') s1 fun z => by
    have z2 := hq z
    injection z2 with z2
    simpa using (List.cons.inj (List.cons.inj (List.cons.inj z2).2).2).2
  cases r1 with
  | tuple h1 h2 h3 h4 =>
    cases r2 with
    | tuple g1 g2 g3 g4 =>
      refine PySem.W.kat_lt h1 h3 g1 g3 ?_
      refine kat_data hu 0 h4 g4 (fun x hx => ?_) (fun x hx => ?_) (by simp) hl ⟨rfl, rfl⟩
      · simp only [List.mem_cons] at hx
        rcases hx with rfl | rfl | rfl | hx
        · rfl
        · rfl
        · rfl
        · exact s1 x hx
      · simp only [List.mem_cons] at hx
        rcases hx with rfl | rfl | rfl | hx
        · rfl
        · rfl
        · rfl
        · exact s2 x hx
theorem row_firsts {h : Heap} {f : Value → PyData} : ∀ {vs : List Value}, (∀ v ∈ vs, IsRow h v (f v)) → ∃ fs : List Value, PySem.W.KatTups h vs fs ∧ fs.length = vs.length ∧ ∀ u ∈ fs, ∃ x t, u = Value.int x t
  | [], _ => ⟨[], PySem.W.KatTups.nil, rfl, fun _ hm => by simp at hm⟩
  | v :: vs, hp => by
    obtain ⟨fs, h1, h2, h3⟩ := row_firsts (vs := vs) fun v' hm => hp v' (List.mem_cons_of_mem _ hm)
    obtain ⟨⟨a, b, c, r, e, _⟩, as, rr⟩ := hp v List.mem_cons_self
    rw [e] at rr
    cases rr with
    | tuple ho hc hd h4 =>
      generalize hL : Array.toList _ = L at h4
      cases h4 with
      | cons r1 _ =>
        cases r1 with
        | int _ t =>
          refine ⟨.int a t :: fs, PySem.W.KatTups.cons ho hc hd (by rw [← Array.getElem?_toList, hL]; rfl) h1, by rw [List.length_cons, List.length_cons, h2], fun u hm => ?_⟩
          rcases List.mem_cons.mp hm with rfl | hm
          · exact ⟨a, t, rfl⟩
          · exact h3 u hm
theorem rows_sortable {a : Addr} {vs : List Value} {f : Value → PyData} {h0 : Heap} (hu : A.units + 64 < cLine) (hn : 0 < vs.length) (hp : ∀ v ∈ vs, IsRow h0 v (f v)) (uq : ∀ v ∈ vs, ∀ u ∈ vs, key3 (f v) = key3 (f u) → f v = f u) (ha : ∀ b o, h0.get? b = some o → b ≠ a ∧ s.heap.get? b = some o) : SortableO prog w A s a vs (ltR f) := by
  intro h' keep
  have hp' : ∀ v ∈ vs, IsRow h' v (f v) := fun v hm => (hp v hm).keeps fun b o e => keep b o (ha b o e).1 (ha b o e).2
  obtain ⟨fs, h1, h2, h3⟩ := row_firsts hp'
  refine ⟨tuples' true, fun Q E hq => ?_, row_cmp hu hp' uq⟩
  refine PySem.W.kat_kind (T := .type "int") h1 (by omega) (fun u hm => ?_) (by rfl) ?_
  · obtain ⟨x, t, rfl⟩ := h3 u hm
    exact PySem.W.Looks.now
  · have e : (Value.type "int" != Value.type "tuple") = true := by first | decide +kernel | rfl | decide
    rw [e]
    exact hq
end
end SrtD
namespace L2
open PySem PySem.Spec PyProof.Rows SrtD
section
variable {X : Cx}
theorem dpa_at {K : PySem.W.Frag} {H : Hp} {f : Value → PyData} : ∀ {us : List Value}, DpAll K H (us.map backV) (us.map f) → ∀ u ∈ us, Dp K H (backV u) (f u)
  | [], _ => fun u hu => absurd hu (by simp)
  | v :: us, .cons a b => fun u hu => by
    rcases List.mem_cons.mp hu with rfl | hu
    · exact a
    · exact dpa_at b u hu
theorem canAll {ds : List PyData} (h : ∀ d ∈ ds, d.canLay0 = true) : PyData.canLayAll0 ds = true := by
  induction ds with
  | nil => rfl
  | cons d ds ih => exact Bool.and_eq_true_iff.mpr ⟨h d List.mem_cons_self, ih fun x hx => h x (List.mem_cons_of_mem _ hx)⟩
theorem inj_of {α β : Type} {g : α → β} : ∀ {ds : List α}, (ds.map g).Nodup → ∀ d ∈ ds, ∀ e ∈ ds, g d = g e → d = e
  | [], _ => fun d hd => absurd hd (by simp)
  | x :: ds, h => fun d hd e he q => by
    rw [List.map_cons, List.nodup_cons] at h
    rcases List.mem_cons.mp hd with e1 | hd <;> rcases List.mem_cons.mp he with e2 | he
    · rw [e1, e2]
    · exact absurd (List.mem_map.mpr ⟨e, he, by rw [← q, e1]⟩) h.1
    · exact absurd (List.mem_map.mpr ⟨d, hd, by rw [q, e2]⟩) h.1
    · exact inj_of h.2 d hd e he q
end
end L2
set_option exponentiation.threshold 20000
/-! data rules: lcm, plain tuples, dict of a plain tuple of pairs, sorted rows -/
namespace PL
open PySem PySem.Spec PyProof.Rows L2
variable [Nm]
section
variable {K : PySem.W.Frag} {ρ : Rho} {I J L : Asn} {te : TE} {tr : TA}
theorem hu3 {A : Around} {k : Nat} (hr : Room k A) : A.in1.in1.units + 64 < cLine := by
  have := hr.un
  show A.units + 1 + 1 + 64 < cLine
  omega
abbrev rTupU (K : PySem.W.Frag) : List V → Hp → VK → Prop := fun vs H Q => ∃ p ys, vs = [.ref p] ∧ SqL K H p ys ∧ ∀ l o, H l = none → o.dict = none → Q (.ref l) (upd H l (.frz o (.tup ys)))
theorem e_tupU {ds : List PyData} (hr : A K tr ρ I [.d (.list ds)] J) : E K (tCB (rTupU K) tr) ρ I (.u ds) J :=
  e_cb hr fun G H vs gh jo h Q q => by
    obtain ⟨v, rfl, h1⟩ := dva1 h
    cases h1 with
    | lst s r =>
      rename_i a xs
      refine ⟨_, _, rfl, gh.seq s, fun l o hl ho => ?_⟩
      have st := Stp.new (o := .frz o (.tup xs)) gh hl
      exact q _ _ _ st.gg st.gh (Asn.pure_st st jo) ⟨l, o, xs, rfl, upd_same, ho, dp_monos st.gg ds _ r⟩
theorem u2t {G : Hp} {v : V} {xs : List PyData} (h : Dv K G v (.u xs)) : Dv K G v (.t xs) := by
  obtain ⟨a, o, vs, rfl, h2, _, h4⟩ := h
  exact .tup (.inl (.inr ⟨o, h2⟩)) h4
theorem e_u2t {xs : List PyData} (h : E K te ρ I (.u xs) J) : E K te ρ I (.t xs) J := fun G H σ gh en io Q q => h G H σ gh en io Q fun v G1 H1 g1 gh1 j1 dv => q v G1 H1 g1 gh1 j1 (u2t dv)
abbrev prV (z : Int × PyData) : PyData := .tuple [.int z.1, z.2]
abbrev prK (z : Int × PyData) : Key × PyData := (.inl z.1, z.2)
theorem prs_of {G : Hp} : ∀ {kps : List (Int × PyData)} {vs : List V}, DpAll K G vs (kps.map prV) → ∃ (ps : List Addr) (kvs : List (Key × V)), vs = ps.map V.ref ∧ Paired (fun p kv => SqT K G p [kV kv.1, kv.2]) ps kvs ∧ kvs.map (·.1) = kps.map (fun z => Sum.inl z.1) ∧ DpAll K G (kvs.map (·.2)) (kps.map (·.2))
  | [], _, h => by
    cases h
    exact ⟨[], [], rfl, .nil, rfl, .nil⟩
  | (n, x) :: kps, _, h => by
    cases h with
    | cons h1 h2 =>
      obtain ⟨ps, kvs, e1, e2, e3, e4⟩ := prs_of h2
      cases h1 with
      | tup s r =>
        cases r with
        | cons r1 r2 =>
          cases r1
          cases r2 with
          | cons r3 r4 =>
            cases r4
            rename_i p v
            refine ⟨p :: ps, (.inl n, v) :: kvs, by rw [e1]; rfl, .cons (s) e2, by rw [List.map_cons, List.map_cons, e3], .cons r3 e4⟩
theorem mergeK_app : ∀ {more kvs : List (Key × V)}, (more.map (·.1)).Nodup → (∀ k ∈ more.map (·.1), k ∉ kvs.map (·.1)) → mergeK kvs more = kvs ++ more
  | [], _, _, _ => by simp [mergeK]
  | (k, v) :: more, kvs, nd, h => by
    rw [List.map_cons, List.nodup_cons] at nd
    have e : putK kvs k v = kvs ++ [(k, v)] := by
      unfold putK
      rw [if_neg]
      rw [List.any_eq_true]
      rintro ⟨z, hz, e⟩
      exact h k List.mem_cons_self (List.mem_map.mpr ⟨z, hz, of_decide_eq_true e⟩)
    show mergeK (putK kvs k v) more = _
    rw [e, mergeK_app nd.2, List.append_assoc]
    · rfl
    · intro k' hk' hm
      rw [List.map_append, List.mem_append] at hm
      rcases hm with hm | hm
      · exact h k' (List.mem_cons_of_mem _ hk') hm
      · simp only [List.map_cons, List.map_nil, List.mem_singleton] at hm
        subst hm
        exact nd.1 hk'
end
end PL
/-! comprehensions of two clauses, and of one with a test, over any walk -/
namespace PL
open PySem PySem.Spec PyProof.Rows L2
variable [Nm]
section
variable {K : PySem.W.Frag} {ρ : Rho} {I J L : Asn} {te : TE} {tr : TA}
/-- the kept items of a row, up to j -/
def rowK (b : Nat → Bool) (e : Nat → PyData) (j : Nat) : List PyData := ((List.range j).filter b).map e
theorem rowK_s {b : Nat → Bool} {e : Nat → PyData} {j : Nat} : rowK b e (j + 1) = rowK b e j ++ (if b j = true then [e j] else []) := by
  unfold rowK
  rw [List.range_succ, List.filter_append, List.map_append]
  congr 1
  by_cases h : b j = true
  · rw [if_pos h, List.filter_cons_of_pos h]
    rfl
  · rw [if_neg h, List.filter_cons_of_neg h]
    rfl
theorem rowK_len {b : Nat → Bool} {e : Nat → PyData} (j : Nat) : (rowK b e j).length ≤ j := by
  unfold rowK
  rw [List.length_map]
  exact Nat.le_trans (List.length_filter_le _ _) (by rw [List.length_range]; exact Nat.le_refl _)
end
end PL
/-! a dict of one's own: reading it, and storing its last key again -/
namespace PL
open PySem PySem.Spec PyProof.Rows L2
variable [Nm]
section
variable {K : PySem.W.Frag} {ρ : Rho} {I J L N : Asn} {ta tb te : TE} {tr : TA} {x y : PyData}
theorem e_kGetM {q : Addr} {kvs : List (Key × PyData)} {n : Int} (ha : E K ta ρ I (.r q) J) (hb : E K tb ρ J (.i n) N) (hN : ∀ G H, N.ok G H → (kA K q kvs).ok G H) (h : valD kvs (.inl n) = some x) : E K (tDGet ta tb) ρ I (.d x) N := fun G H σ gh en io Q k => ha G H σ gh en io _ fun v G1 H1 g1 gh1 j1 dv => hb G1 H1 σ gh1 (env_mono g1 en) j1 _ fun w G2 H2 g2 gh2 j2 dw => by
  obtain rfl : v = .ref q := dv
  obtain rfl := dv_int dw
  obtain ⟨gq, vs, hq, r⟩ := hN G2 H2 j2
  obtain ⟨u, hu, dp⟩ := (kv_get (ky := .inl n) r).2 x h
  exact ⟨q, u, rfl, .inl ⟨vs, .inl n, .of hq, rfl, hu.symm⟩, k u G2 H2 (g1.trans g2) gh2 j2 dp⟩
theorem dpa_intsV {G : Hp} : ∀ (ns : List Int) (vs : List V), DpAll K G vs (ns.map PyData.int) → vs = ns.map V.int
  | [], _, h => by cases h; rfl
  | n :: ns, _, h => by
    cases h with
    | cons a b =>
      cases a
      rw [dpa_intsV ns _ b]
      rfl
end
end PL
/-! sorted of any rows that a key tells apart; sorted(d.items()) -/
namespace SrtG
open PySem PySem.Spec PyProof.Rows SrtO Srt SrtD
/-- a kind of rows: tuples that begin with a whole number, and how two of them are told apart -/
structure RowK where
  κ : Type
  key : PyData → κ
  lt : κ → κ → Bool
  swo : Swo lt
  row : PyData → Prop
  head : ∀ d, row d → ∃ (a : Int) (r : List PyData), d = .tuple (.int a :: r) ∧ ∀ x ∈ r, SeqAt.shaped x = true
  cmp : ∀ r r', row (.tuple r) → row (.tuple r') → (key (.tuple r) = key (.tuple r') → r = r') → lexL r r' = some (lt (key (.tuple r)) (key (.tuple r')))
def IsRow (R : RowK) (h : Heap) (v : Value) (d : PyData) : Prop := R.row d ∧ ∃ as, Reads h v d as
theorem IsRow.keeps {R : RowK} {h h' : Heap} {v : Value} {d : PyData} (p : IsRow R h v d) (hk : ∀ b o, h.get? b = some o → h'.get? b = some o) : IsRow R h' v d := ⟨p.1, p.2.imp fun _ r => PyProof.Rows.Reads.keeps hk r⟩
abbrev ltR (R : RowK) (f : Value → PyData) (v u : Value) : Bool := R.lt (R.key (f v)) (R.key (f u))
theorem lt_map {κ α : Type} {lt : κ → κ → Bool} (O : Swo lt) (k : α → κ) : Swo fun x y => lt (k x) (k y) := ⟨fun x y h => O.asym _ _ h, fun x y z h1 h2 => O.tr _ _ _ h1 h2⟩
theorem all_sh {a : Int} {r : List PyData} (h : ∀ x ∈ r, SeqAt.shaped x = true) : ∀ x ∈ (.int a :: r : List PyData), SeqAt.shaped x = true := fun x hx => by
  rcases List.mem_cons.mp hx with rfl | hx
  · rfl
  · exact h x hx
section
variable {prog : Program} {w : World} {A : Around} {s : Shared} {R : RowK}
theorem row_cmp {vs : List Value} {f : Value → PyData} (hu : A.units + 64 < cLine) (hp : ∀ v ∈ vs, IsRow R s.heap v (f v)) (uq : ∀ v ∈ vs, ∀ u ∈ vs, R.key (f v) = R.key (f u) → f v = f u) : Cmp prog w A s (tuples' true) (fun p => p.1 ∈ vs) (lt2 (ltR R f)) := by
  intro p q hm hm'
  show wpAny (model prog w) A (keyLt' (tuples' true) p.1 q.1) (fun r s' => s' = s ∧ r = R.lt (R.key (f p.1)) (R.key (f q.1))) (fun _ _ => False) s
  have hq := uq _ hm _ hm'
  obtain ⟨w1, as, r1⟩ := hp _ hm
  obtain ⟨w2, bs, r2⟩ := hp _ hm'
  generalize p.1 = v at *
  generalize q.1 = u at *
  obtain ⟨a, r, e1, s1⟩ := R.head _ w1
  obtain ⟨a', r', e2, s2⟩ := R.head _ w2
  rw [e1] at w1
  rw [e2] at w2
  rw [e1, e2] at hq ⊢
  rw [e1] at r1
  rw [e2] at r2
  have hl := R.cmp _ _ w1 w2 fun z => by
    have z2 := hq z
    injection z2 with z2
  cases r1 with
  | tuple h1 h2 h3 h4 =>
    cases r2 with
    | tuple g1 g2 g3 g4 =>
      refine PySem.W.kat_lt h1 h3 g1 g3 ?_
      exact kat_data hu 0 h4 g4 (all_sh s1) (all_sh s2) (by simp) hl ⟨rfl, rfl⟩
theorem row_firsts {h : Heap} {f : Value → PyData} : ∀ {vs : List Value}, (∀ v ∈ vs, IsRow R h v (f v)) → ∃ fs : List Value, PySem.W.KatTups h vs fs ∧ fs.length = vs.length ∧ ∀ u ∈ fs, ∃ x t, u = Value.int x t
  | [], _ => ⟨[], PySem.W.KatTups.nil, rfl, fun _ hm => by simp at hm⟩
  | v :: vs, hp => by
    obtain ⟨fs, h1, h2, h3⟩ := row_firsts (vs := vs) fun v' hm => hp v' (List.mem_cons_of_mem _ hm)
    obtain ⟨w1, as, rr⟩ := hp v List.mem_cons_self
    obtain ⟨a, r, e, _⟩ := R.head _ w1
    rw [e] at rr
    cases rr with
    | tuple ho hc hd h4 =>
      generalize hL : Array.toList _ = L at h4
      cases h4 with
      | cons r1 _ =>
        cases r1 with
        | int _ t =>
          refine ⟨.int a t :: fs, PySem.W.KatTups.cons ho hc hd (by rw [← Array.getElem?_toList, hL]; rfl) h1, by rw [List.length_cons, List.length_cons, h2], fun u hm => ?_⟩
          rcases List.mem_cons.mp hm with rfl | hm
          · exact ⟨a, t, rfl⟩
          · exact h3 u hm
theorem rows_sortable {a : Addr} {vs : List Value} {f : Value → PyData} {h0 : Heap} (hu : A.units + 64 < cLine) (hn : 0 < vs.length) (hp : ∀ v ∈ vs, IsRow R h0 v (f v)) (uq : ∀ v ∈ vs, ∀ u ∈ vs, R.key (f v) = R.key (f u) → f v = f u) (ha : ∀ b o, h0.get? b = some o → b ≠ a ∧ s.heap.get? b = some o) : SortableO prog w A s a vs (ltR R f) := by
  intro h' keep
  have hp' : ∀ v ∈ vs, IsRow R h' v (f v) := fun v hm => (hp v hm).keeps fun b o e => keep b o (ha b o e).1 (ha b o e).2
  obtain ⟨fs, h1, h2, h3⟩ := row_firsts hp'
  refine ⟨tuples' true, fun Q E hq => ?_, row_cmp hu hp' uq⟩
  refine PySem.W.kat_kind (T := .type "int") h1 (by omega) (fun u hm => ?_) (by rfl) ?_
  · obtain ⟨x, t, rfl⟩ := h3 u hm
    exact PySem.W.Looks.now
  · have e : (Value.type "int" != Value.type "tuple") = true := by first | decide +kernel | rfl | decide
    rw [e]
    exact hq
end
/-! rows told by one whole number, by two -/
def key1 : PyData → Int
  | .tuple (.int a :: _) => a
  | _ => 0
def Row1 (d : PyData) : Prop := ∃ (a : Int) (r : List PyData), d = .tuple (.int a :: r) ∧ ∀ x ∈ r, SeqAt.shaped x = true
theorem lt_swo : Swo fun (x y : Int) => decide (x < y) := ⟨fun x y h => by rw [decide_eq_true_iff] at h; rw [decide_eq_false_iff_not]; omega, fun x y z h1 h2 => by rw [decide_eq_false_iff_not] at h1 h2 ⊢; omega⟩
def R1 : RowK where
  κ := Int
  key := key1
  lt := fun x y => decide (x < y)
  swo := lt_swo
  row := Row1
  head := fun d h => h
  cmp := fun r r' h h' hk => by
    obtain ⟨a, t, e, s1⟩ := h
    obtain ⟨a', t', e', s2⟩ := h'
    injection e with e
    injection e' with e'
    subst e e'
    show lexL (.int a :: t) (.int a' :: t') = some (decide (a < a'))
    rw [lexL]
    simp only [eqv_ints]
    by_cases c : a = a'
    · rw [if_pos c]
      have hk2 : (.int a :: t : List PyData) = .int a' :: t' := hk (show a = a' from c)
      have e2 : t = t' := (List.cons.inj hk2).2
      rw [← e2, lexL_self t s1, c]
      congr 1
      symm
      rw [decide_eq_false_iff_not]
      omega
    · rw [if_neg c]
abbrev K2 := Int × Int
def lex2 (p q : K2) : Bool := decide (p.1 < q.1 ∨ (p.1 = q.1 ∧ p.2 < q.2))
theorem lex2_swo : Swo lex2 := ⟨fun x y h => by
  unfold lex2 at h ⊢
  rw [decide_eq_true_iff] at h
  rw [decide_eq_false_iff_not]
  omega, fun x y z h1 h2 => by
  unfold lex2 at h1 h2 ⊢
  rw [decide_eq_false_iff_not] at h1 h2 ⊢
  omega⟩
def key2 : PyData → K2
  | .tuple (.int a :: .int b :: _) => (a, b)
  | _ => (0, 0)
def Row2 (d : PyData) : Prop := ∃ (a b : Int) (r : List PyData), d = .tuple (.int a :: .int b :: r) ∧ ∀ x ∈ r, SeqAt.shaped x = true
def R2 : RowK where
  κ := K2
  key := key2
  lt := lex2
  swo := lex2_swo
  row := Row2
  head := fun d h => by
    obtain ⟨a, b, r, e, s1⟩ := h
    exact ⟨a, .int b :: r, e, all_sh s1⟩
  cmp := fun r r' h h' hk => by
    obtain ⟨a, b, t, e, s1⟩ := h
    obtain ⟨a', b', t', e', s2⟩ := h'
    injection e with e
    injection e' with e'
    subst e e'
    show lexL (.int a :: .int b :: t) (.int a' :: .int b' :: t') = some (lex2 (a, b) (a', b'))
    unfold lex2
    rw [lexL, lexL]
    simp only [eqv_ints]
    by_cases c : a = a'
    · rw [if_pos c]
      by_cases c2 : b = b'
      · rw [if_pos c2]
        have hk2 : (.int a :: .int b :: t : List PyData) = .int a' :: .int b' :: t' := hk (show (a, b) = (a', b') by rw [c, c2])
        have e2 : t = t' := (List.cons.inj (List.cons.inj hk2).2).2
        rw [← e2, lexL_self t s1, c, c2]
        congr 1
        symm
        rw [decide_eq_false_iff_not]
        try dsimp only
        omega
      · rw [if_neg c2]
        congr 1
        rw [decide_eq_decide]
        try dsimp only
        omega
    · rw [if_neg c]
      congr 1
      rw [decide_eq_decide]
      try dsimp only
      omega
end SrtG
namespace L2
open PySem PySem.Spec PyProof.Rows SrtG
end L2
/-! over data: sorted rows of any kind, sorted(d.items()); a dict of pairs as one's own, stores and readings of any key -/
namespace PL
open PySem PySem.Spec PyProof.Rows L2 SrtG
variable [Nm]
section
variable {K : PySem.W.Frag} {ρ : Rho} {I J L N : Asn} {ta tb tc te : TE} {tr : TA} {x y : PyData}
/-- objects that are new in H', and never change -/
def extG (G H H' : Hp) : Hp := fun b => match H b with
  | some _ => G b
  | none => H' b
theorem Stp.ext {G H H' : Hp} (h : Same G H) (e : ∀ b o, H b = some o → H' b = some o) : Stp NoA G H (extG G H H') H' := by
  have old : ∀ b o, H b = some o → extG G H H' b = G b := fun b o z => by unfold extG; rw [z]
  have new : ∀ b, H b = none → extG G H H' b = H' b := fun b z => by unfold extG; rw [z]
  refine ⟨fun b o z => ?_, fun b o z => ?_, fun b o _ z => .of (e b o z), fun b o _ z n => by rw [old b o z]; exact n, fun b o z => ⟨o, e b o z⟩, fun P t => t.keep (fun g => by obtain ⟨ps, hP⟩ := t.some; rw [old P _ hP]; exact g) fun b o z _ _ => e b o z⟩
  · obtain ⟨u, hu, _⟩ := (h b o z).some
    rw [old b u hu]
    exact .of z
  · cases c : H b with
    | none =>
      rw [new b c] at z
      exact .of z
    | some u =>
      rw [old b u c] at z
      have k := h b o z
      rw [c] at k
      rw [e b u c]
      exact k
/-! ### a dict of one's own: any store, any reading, made of pairs -/
/-- a store, over data -/
def putD (kvs : List (Key × PyData)) (k : Key) (x : PyData) : List (Key × PyData) :=
  if (kvs.any fun z => decide (z.1 = k)) = true then kvs.map (fun z => if z.1 = k then (z.1, x) else z) else kvs ++ [(k, x)]
theorem kv_put {G : Hp} {ky : Key} {z : V} {zd : PyData} {vs : List (Key × V)} {kvs : List (Key × PyData)} (h : KvAll K G vs kvs) (hz : Dp K G z zd) : KvAll K G (putK vs ky z) (putD kvs ky zd) := by
  have ea : (vs.any fun kv => decide (kv.1 = ky)) = (kvs.any fun kv => decide (kv.1 = ky)) := by
    have e1 : (vs.any fun kv => decide (kv.1 = ky)) = (vs.map (·.1)).any fun k => decide (k = ky) := by rw [List.any_map]; rfl
    have e2 : (kvs.any fun kv => decide (kv.1 = ky)) = (kvs.map (·.1)).any fun k => decide (k = ky) := by rw [List.any_map]; rfl
    rw [e1, e2, h.1]
  have key : ∀ {vs : List (Key × V)} {kvs : List (Key × PyData)}, KvAll K G vs kvs → KvAll K G (vs.map fun kv => if kv.1 = ky then (kv.1, z) else kv) (kvs.map fun kv => if kv.1 = ky then (kv.1, zd) else kv) := by
    intro vs
    induction vs with
    | nil =>
      intro kvs h
      cases kvs with
      | nil => exact ⟨rfl, .nil⟩
      | cons kv kvs => have := h.1; simp at this
    | cons v vs ih =>
      intro kvs h
      cases kvs with
      | nil => have := h.1; simp at this
      | cons kv kvs =>
        obtain ⟨h1, h2⟩ := h
        have e : v.1 = kv.1 ∧ vs.map (·.1) = kvs.map (·.1) := by simpa using h1
        obtain ⟨e1, e2⟩ := e
        cases h2 with
        | cons r rr =>
          obtain ⟨i1, i2⟩ := ih ⟨e2, rr⟩
          rw [List.map_cons, List.map_cons, e1]
          by_cases c : kv.1 = ky
          · rw [if_pos c, if_pos c]
            exact ⟨by rw [List.map_cons, List.map_cons, i1], .cons hz i2⟩
          · rw [if_neg c, if_neg c]
            exact ⟨by rw [List.map_cons, List.map_cons, i1, e1], .cons r i2⟩
  unfold putK putD
  rw [ea]
  split
  · exact key h
  · refine ⟨by rw [List.map_append, List.map_append, h.1]; rfl, ?_⟩
    rw [List.map_append, List.map_append]
    exact dpa_app h.2 (.cons hz .nil)
/-- x[n] = e, any key -/
theorem s_putKG {i : Nat} {q : Addr} {n : Int} {kvs : List (Key × PyData)} (he : E K te ρ (kJ K q kvs J) (.d x) (kJ K q kvs J)) (hi : ρ[i]? = some (some (.r q))) (hb : E K tb ρ (kJ K q kvs J) (.i n) (kJ K q kvs J)) (hl : kvs.length < 100000) (hf : ¬ J.foot q) :
    S K (sDPut (tVar i) tb te) ρ (kJ K q kvs J) (.nx ρ (kJ K q (putD kvs (.inl n) x) J)) := fun G H σ D gh en io f => he G H σ gh en io _ fun v G1 H1 g1 gh1 j1 dv => by
  obtain ⟨o, ho, rfl⟩ := env_get en hi
  refine ⟨.ref q, ho, hb G1 H1 σ gh1 (env_mono g1 en) j1 _ fun w G2 H2 g2 gh2 j2 dw => ?_⟩
  obtain rfl := dv_int dw
  obtain ⟨⟨gq, vs, hq, r⟩, jo⟩ := j2
  have hlen := kv_len r
  refine ⟨q, _, rfl, DPut.k (k := .inl n) hq (Nat.lt_of_lt_of_le (by omega : vs.length < 100000) (by rw [sizeLine_eq]; decide)), ?_⟩
  have st := Stp.store (o := HO.dK (putK vs (.inl n) v)) gh2 gq hq
  exact f G2 _ σ (g1.trans g2) st.gh (env_mono (g1.trans g2) en) ⟨⟨gq, _, upd_same, kv_put r (dp_mono g2 _ _ dv)⟩, J.st _ _ _ _ _ (fun a fa (z : a = q) => hf (z ▸ fa)) st jo⟩
/-- x = dict(pairs), one's own -/
theorem s_dictU {i : Nat} {us : TS} {k : Out} {kps : List (Int × PyData)} (hr : A K tr ρ I [.u (kps.map prV)] I) (nd : (kps.map (·.1)).Nodup) (h : ∀ q, ¬ I.foot q → S K us (ρ.set i (some (.r q))) (kJ K q (kps.map prK) I) k) : S K (tSeq (tAsg (tCB (rDictU K) tr) (gName i)) us) ρ I k := fun G H σ D gh en io f => by
  refine hr G H σ gh en io _ fun vs G1 H1 g1 gh1 j1 dv => ?_
  obtain ⟨v, rfl, a, o, ws, rfl, h2, h3, h4⟩ := dva1 dv
  obtain ⟨ps, kvs, rfl, e2, e3, e4⟩ := prs_of h4
  have nd2 : (kvs.map (·.1)).Nodup := by
    rw [e3, show (fun z : Int × PyData => (Sum.inl z.1 : Key)) = (fun n => (Sum.inl n : Key)) ∘ (fun z => z.1) from rfl, ← List.map_map]
    exact List.Pairwise.map _ (fun _ _ hne z => hne (by injection z)) nd
  have em : mergeK [] kvs = kvs := by
    rw [mergeK_app nd2 (fun _ _ z => by simp at z)]
    rfl
  refine ⟨a, o, ps, kvs, rfl, gh1 _ _ h2, h3, ?_, fun p hp => ?_⟩
  · have : ∀ {ps : List Addr} {kvs : List (Key × V)}, Paired (fun p kv => SqT K G1 p [kV kv.1, kv.2]) ps kvs → Paired (fun p kv => SqT K H1 p [kV kv.1, kv.2]) ps kvs := by
      intro ps kvs h
      induction h with
      | nil => exact .nil
      | cons a _ ih => exact .cons (same_t gh1 a) ih
    exact this e2
  · rw [em]
    have s := Stp.newM (o := HO.dK kvs) gh1 hp
    have gp : G1 p = none := gh1.free hp
    refine h p (fun z => ?_) G1 _ _ D s.gh (env_set (d := .r p) rfl (env_mono g1 en)) ⟨⟨gp, kvs, upd_same, ?_, ?_⟩, Asn.pure_st s j1⟩ (f.mono g1)
    · obtain ⟨o, ho⟩ := I.own G1 H1 p j1 z
      rw [ho] at hp
      cases hp
    · rw [e3, List.map_map]
      rfl
    · rw [List.map_map]
      exact e4
end
end PL
/-! over data: sorted(d), list.index, a comprehension with a test over any walk -/
namespace PL
open PySem PySem.Spec PyProof.Rows L2
variable [Nm]
section
variable {K : PySem.W.Frag} {ρ : Rho} {I J L N : Asn} {ta tb tc te : TE} {tr : TA} {x y : PyData}
abbrev rSortDI : List V → Hp → VK → Prop := fun xs H Q => ∃ (a : Addr) (kvs : List (Key × V)) (ks : List Int), xs = [.ref a] ∧ Rd H a (.dK kvs) ∧ kvs.map (·.1) = ks.map Sum.inl ∧ ks.length < 64 ∧
    ∀ (ys : List Int) (p : Addr), ys.Perm ks → ys.Pairwise (· ≤ ·) → H p = none → Q (.ref p) (upd H p (.lst (ys.map V.int)))
/-- sorted(d), d with whole numbers as keys -/
theorem e_sortDI {kvs : List (Key × PyData)} {ks es : List Int} (hr : A K tr ρ I [.k kvs] J) (hk : kvs.map (·.1) = ks.map Sum.inl) (hl : ks.length < 64) (pm : es.Perm ks) (up : es.Pairwise (· ≤ ·)) : E K (tCB rSortDI tr) ρ I (.l (es.map PyData.int)) J :=
  e_cb hr fun G H vs gh jo h Q q => by
    obtain ⟨v, rfl, a, ws, rfl, h2, h3⟩ := dva1 h
    refine ⟨a, ws, ks, rfl, .of (gh _ _ h2), by rw [h3.1, hk], hl, fun ys p hp hs hn => ?_⟩
    have e : ys = es := List.Perm.eq_of_pairwise (le := fun x y : Int => x ≤ y) (fun a b _ _ h1 h2 => Int.le_antisymm h1 h2) hs up (hp.trans pm.symm)
    subst e
    have st := Stp.new (o := .lst (ys.map V.int)) gh hn
    exact q _ _ _ st.gg st.gh (Asn.pure_st st jo) ⟨p, _, rfl, upd_same, dpa_ints ys⟩
/-- [e for g in .. if t] -/
theorem e_lcTW {wi : TI} {g : TG} {tt : TT} {vs : List Nat} {n : Nat} {xs : Nat → PyData} {b : Nat → Bool} {e : Nat → PyData} (hl : IW K wi ρ I n xs I) (hz : n ≤ 100000)
    (he : ∀ i, i < n → ∃ ρ', GW K g vs (xs i) (wipeR ρ vs) ρ' ∧ (∀ I', T K tt ρ' I' (b i) I') ∧ (b i = true → ∀ I', E K te ρ' I' (.d (e i)) I')) : E K (tLc wi g tt te vs) ρ I (.d (.list (rowK b e n))) I := fun G H σ gh en io Q q =>
  hl G H σ gh en io _ fun Ji G1 H1 g1 gh1 j1 wk D hD => by
    have gD : G1 D = none := gh1.free hD
    have nD : ∀ a, I.foot a → ¬ a = D := fun a fa z => by
      obtain ⟨o, ho⟩ := I.own G1 H1 a j1 fa
      rw [z, hD] at ho
      cases ho
    have st0 := Stp.newM (o := HO.lst []) gh1 hD
    refine ⟨fun i m H' => m = n - i ∧ i ≤ n ∧ ∃ G', Same G1 G' ∧ Same G' H' ∧ I.ok G' H' ∧ (lA K D (rowK b e i)).ok G' H' ∧ Stp (· = D) G1 (upd H1 D (.lst [])) G' H', ⟨n, rfl, Nat.zero_le _, G1, Same.refl _, st0.gh, Asn.pure_st st0 j1, ⟨gD, [], upd_same, .nil⟩, Stp.refl st0.gh⟩, fun i m H' hw => ?_⟩
    obtain ⟨rfl, hi, G', a1, a2, a3, a4, a5⟩ := hw
    by_cases c : i < n
    · obtain ⟨ρ', hg, ht, hel⟩ := he i c
      refine .inr ⟨wk.go i G' H' c a1 a2, fun H2 => ∃ G2, Same G1 G2 ∧ Same G2 H2 ∧ I.ok G2 H2 ∧ (lA K D (rowK b e (i + 1))).ok G2 H2 ∧ Stp (· = D) G1 (upd H1 D (.lst [])) G2 H2, fun H2 z => ⟨n - (i + 1), by omega, rfl, c, z⟩, fun v H2 y => ?_⟩
      obtain ⟨G2, st, dp⟩ := wk.yld i G' H' v H2 c a1 a2 y
      refine hg G2 H2 _ v _ st.gh (env_wipe (env_mono ((g1.trans a1).trans st.gg) en) vs) dp fun σ' en' hw => ⟨hw.trans (wipe_wipe σ vs), ?_⟩
      refine ht (((lA K D (rowK b e i)).and I).and (Asn.since (· = D) G1 (upd H1 D (.lst [])))) G2 H2 σ' st.gh en' ⟨⟨Asn.pure_st st a4, Asn.pure_st st a3⟩, a5.trans (st.wide fun _ z => z.elim)⟩ _ fun G7 H7 g7 gh7 j7 => ?_
      by_cases hb : b i = true
      · rw [if_pos hb]
        refine hel hb (((lA K D (rowK b e i)).and I).and (Asn.since (· = D) G1 (upd H1 D (.lst [])))) G7 H7 σ' gh7 (env_mono g7 en') j7 _ fun z G3 H3 g3 gh3 j3 dy => ?_
        obtain ⟨⟨⟨gq, ws, hq, r2⟩, i3⟩, st3⟩ := j3
        have st4 := Stp.store (o := HO.lst (ws ++ [z])) gh3 gq hq
        refine ⟨ws, hq, ?_, G3, ((a1.trans st.gg).trans g7).trans g3, st4.gh, I.st _ _ _ _ _ nD st4 i3, ⟨gq, _, upd_same, ?_⟩, st3.trans st4⟩
        · rw [dpa_len r2]
          have := rowK_len (b := b) (e := e) i
          rw [sizeLine_eq]
          omega
        · rw [rowK_s, if_pos hb]
          exact dpa_app r2 (.cons dy .nil)
      · rw [if_neg hb]
        obtain ⟨⟨l7, i7⟩, s7⟩ := j7
        refine ⟨G7, (a1.trans st.gg).trans g7, gh7, i7, ?_, s7⟩
        rw [rowK_s, if_neg hb, List.append_nil]
        exact l7
    · have ei : i = n := by omega
      subst ei
      obtain ⟨gq, ws, hq, r2⟩ := a4
      have st : Stp (· = D) G' H' (upd G' D (.lst ws)) H' := Stp.frz a2 gq hq
      exact .inl ⟨wk.stop G' H' a1 a2, q _ (upd G' D (.lst ws)) H' ((g1.trans a1).trans st.gg) st.gh (I.st _ _ _ _ _ nD st a3) (.lst (.inl (.inl upd_same)) (dp_monos st.gg _ ws r2))⟩
end
end PL
/-! comprehensions whose elements lean on what holds around them -/
namespace PL
open PySem PySem.Spec PyProof.Rows L2
variable [Nm]
section
variable {K : PySem.W.Frag} {ρ : Rho} {I J L N : Asn} {ta tb tc te : TE} {tr : TA} {x y : PyData}
theorem HasT.of {T : Tbs} [h : HasT T I] {I' : Asn} (k : ∀ G H, I'.ok G H → I.ok G H) : HasT T I' := ⟨fun G H z => h.get G H (k G H z)⟩
end
end PL
set_option maxHeartbeats 1000000
/-! sorted(xs, key=lambda z: (z[0], z[1])) -/
namespace LM
open PySem PySem.Spec PyProof.Rows L2
/-! ### the heap that is told of, across the making of a lambda -/
end LM
/-! over data: sorted(xs, key=lambda z: (z[0], z[1])) -/
namespace PL
open PySem PySem.Spec PyProof.Rows L2
variable [Nm]
def le2 (x y : Int × Int) : Prop := x.1 < y.1 ∨ (x.1 = y.1 ∧ x.2 ≤ y.2)
end PL
set_option maxHeartbeats 1000000
/-! name = {k: e for ..} -/
namespace PX
open PySem PySem.Spec PyProof.Rows L2
section
variable {X : Cx} {i : Nat} {y : Str} {py : Pos} {kx vx tg iter : Expr} {ifs : List Expr} {scope : Scope} {own : List (Str × Nat)} {pos spos : Pos} {wi : TI} {g : TG} {tt : TT} {tk tv : TE}
theorem sw_trueD {gs : List Comprehension} {l : Nat} {env : Env} (hk : env.scope.kind = .function) (hy : env.scope.names.lookup y = some .local) (hl : (py.line == pos.line) = true) (ha : (scope.names.any fun (n, k) => n == y && (k == .local || k == .cell)) = false) :
    swapsWith (.DictComp kx vx gs scope pos) (some (.Name y py)) l env = pure true := by
  have a1 : env.kindOf y = some .local := hy
  have a2 : env.blockKind = .function := by
    unfold Env.blockKind
    rw [hk]
    rfl
  unfold swapsWith
  simp only [a2, a1, ha, Expr.pos, hl]
  rfl
theorem ps_setDc (hc : X.calm = true) (nd : X.N.Nodup) (at_ : X.N[i]? = some y) (loc : X.env.scope.names.lookup y = some .local) (sw : swapsWith (.DictComp kx vx [⟨tg, iter, ifs, 0⟩] scope pos) (some (.Name y py)) spos.line X.env = pure true) (hi : PI X tg iter wi) (ok : BlkOk X.N X.env.scope scope own)
    (tgt : ∀ (s : Shared) (H : Hp) (C : Addr) (cl : List (Str × Addr)) (fp : List Addr), PG (X.blk s H scope (compEnvC scope cl C X.env) fp) tg g) (tst : ∀ (s : Shared) (H : Hp) (C : Addr) (cl : List (Str × Addr)) (fp : List Addr), PTs (X.blk s H scope (compEnvC scope cl C X.env) fp) ifs tt)
    (key : ∀ (s : Shared) (H : Hp) (C : Addr) (cl : List (Str × Addr)) (fp : List Addr), PE (X.blk s H scope (compEnvC scope cl C X.env) fp) kx tk) (val : ∀ (s : Shared) (H : Hp) (C : Addr) (cl : List (Str × Addr)) (fp : List Addr), PE (X.blk s H scope (compEnvC scope cl C X.env) fp) vx tv)
    (hs : ∀ x, foldedSetIterable iter X.env x = pure x := by intro _; rfl) : PS X (.Assign [.Name y py] (.DictComp kx vx [⟨tg, iter, ifs, 0⟩] scope pos) spos) (tAsg (tDc wi g tt tk tv (own.map (·.2))) (gName i)) := by
  refine ⟨fun pins s σ H D I w => ?_⟩
  rw [exec_Assign_Name_used _ _ _ _ sw]
  refine wpAny_bind (wpAny_standAt (wpAny_bind ?_))
  show wpAny _ X.A (comprehension (.DictComp kx vx [⟨tg, iter, ifs, 0⟩] scope pos) scope X.env (firstIterPos [⟨tg, iter, ifs, 0⟩] pos) newDict false (eval iter X.env) (some (assign (.Name y py) X.env)) >>= _) _ _ s
  have w : tDc wi g tt tk tv (own.map (·.2)) σ H (fun x H1 => gName i x σ H1 D.nx) := w
  refine wpAny_bind (thn (dc_core (Qf := fun _ s' => SP X pins D .next s') hc nd I hi ok tgt tst key val hs w fun L C s' m H' J q hn f => ?_) fun _ s' hq => wpAny_pure (wpAny_pure hq))
  show wpAny _ _ (assign (.Name y py) X.env (.ref L)) _ _ _
  refine wpAny_assign_Name (store_ok2 (v := V.ref L) J nd at_ (.inl loc) rfl (fun s2 J2 ⟨a, sb, ha⟩ => ?_) (.inr loc))
  obtain ⟨f0, f1, f2, f3, f4, f5⟩ := f
  have ne : C ≠ a := ha.elim (fun z => by rw [z]; exact f1) fun z e => f4 y a z e.symm
  refine ⟨m, hn.sameBut sb ne, fun h3 sb3 => ⟨_, H', J2.turned (t' := s2.toks) (fun b o hb e => (sb3.2 b hb).trans e) f0 f1 f3 f4 f5, q⟩⟩
end
end PX
/-! a dict comprehension with a test; list.extend; a displayed tuple as a plain one; x in a tuple of data -/
namespace L2
open PySem PySem.Spec PyProof.Rows
section
variable {X : Cx}
/-- a displayed tuple, told as a plain one -/
def tTupU (t : TA) : TE := fun σ H Q => t σ H fun xs H1 => xs.length ≤ sizeLine ∧ ∀ p o, H1 p = none → o.dict = none → Q (.ref p) (upd H1 p (.frz o (.tup xs)))
theorem pe_tupU {es : List Expr} {t : TA} {pos : Pos} {k : Nat} (h : PA X es t) : PE X (.Tuple es k pos) (tTupU t) := by
  refine ⟨fun pins s σ H Q I hq => ?_⟩
  refine wpAny_Tuple_spliced (thn (h.run pos pins s σ H _ I hq) fun us s1 ⟨xs, H1, I1, r, z, q⟩ => ⟨by rw [← r.length]; exact z, ?_⟩)
  have hg : (s1.heap.push { cls := .type "tuple", data := .seq us.toArray }).get? s1.heap.objs.size = some { cls := .type "tuple", data := .seq us.toArray } := Heap.get?_push_size _ rfl
  exact ⟨.ref s1.heap.objs.size, _, I1.laid (t' := s1.toks) (fun b o e => Heap.get?_push_of_some _ e) (Nat.le_refl _) (show ObjOk X.prog X.w _ _ _ (.frz { cls := .type "tuple", data := .seq us.toArray } (.tup xs)) from ⟨hg, z, us, r, IsTup.new _ _⟩), rfl, q _ _ (I1.hok.fresh (Nat.le_refl _)) rfl⟩
end
end L2
namespace PL
open PySem PySem.Spec PyProof.Rows L2
variable [Nm]
section
variable {K : PySem.W.Frag} {ρ : Rho} {I J L N : Asn} {ta tb tc te : TE} {tr : TA} {x y : PyData} {ts : TS} {k : Out} {q : Addr} {ds es : List PyData}
theorem e_tupD {ds : List Dat} {xs : List PyData} (hr : A K tr ρ I ds J) (hd : Ds ds xs) (hl : xs.length ≤ 100000) : E K (tTupU tr) ρ I (.u xs) J := fun G H σ gh en io Q q => hr G H σ gh en io _ fun vs G1 H1 g1 gh1 j1 dv => by
  have r : DpAll K G1 vs xs := dva_dp (by rw [← hd.map]; exact dv)
  refine ⟨by rw [dpa_len r]; exact Nat.le_trans hl (by rw [sizeLine_eq]; decide), fun p o hp ho => ?_⟩
  have st := Stp.new (o := .frz o (.tup vs)) gh1 hp
  exact q _ _ _ (g1.trans st.gg) st.gh (Asn.pure_st st j1) ⟨p, o, vs, rfl, upd_same, ho, dp_monos st.gg _ _ r⟩
/-- q.extend(e) -/
theorem s_ext {i : Nat} (he : E K te ρ (lJ K q ds J) (.l es) (lJ K q ds J)) (hi : ρ[i]? = some (some (.r q))) (hl : ds.length + es.length ≤ 100000) (hf : ¬ J.foot q) : S K (tDrop (tBM K "list" rExtend (tVar i) (tCons te tNil))) ρ (lJ K q ds J) (.nx ρ (lJ K q (ds ++ es) J)) := fun G H σ D gh en io f => by
  obtain ⟨v, hv, dv⟩ := env_get en hi
  obtain rfl : v = .ref q := dv
  have io' := io
  obtain ⟨⟨gq, vs, hq, r⟩, jo⟩ := io
  refine ⟨.ref q, hv, .inl ⟨rfl, _, .inl (.inl hq)⟩, he G H σ gh en io' _ fun w G1 H1 g1 gh1 j1 ⟨a, us, ew, ha, ru⟩ => ?_⟩
  obtain ⟨⟨gq1, vs1, hq1, r1⟩, jo1⟩ := j1
  subst ew
  have s := Stp.store (o := HO.lst (vs1 ++ us)) gh1 gq1 hq1
  refine ⟨q, a, vs1, us, rfl, rfl, hq1, ?_, ?_, ?_⟩
  · have := gh1 _ _ ha
    exact this
  · rw [dpa_len r1, dpa_len ru]
    exact Nat.le_trans hl (by rw [sizeLine_eq]; decide)
  · exact f G1 _ σ g1 s.gh (env_mono g1 en) ⟨⟨gq1, _, upd_same, dpa_app r1 ru⟩, J.st _ _ _ _ _ (fun a fa (z : a = q) => hf (z ▸ fa)) s jo1⟩
end
end PL
/-! enumerate of a tuple; a loop's body that goes on early -/
namespace PL
open PySem PySem.Spec PyProof.Rows L2
end PL
set_option maxHeartbeats 1000000
/-! dicts whose keys are tuples of numbers and texts, wherever these tuples stand -/
namespace TK
open PySem PySem.Spec PyProof.Rows L2
/-- an entry: its key, the place of the key's tuple, its value -/
abbrev Ent := List Key × Addr × V
abbrev Raw3 := List Key × Addr × Value
abbrev RelE (e : Ent) (x : Raw3) : Prop := e.1 = x.1 ∧ e.2.1 = x.2.1 ∧ RelV e.2.2 x.2.2
def Holds (P : Program) (w : World) (a : Addr) (es : List Ent) (h : Heap) : Prop := (a == sysModules) = false ∧ ∃ ys : List Raw3, Paired RelE es ys ∧
  ∃ o ds ep, h.get? a = some o ∧ o.ExactDict ∧ o.data = .dict ds ep ∧ ds.toList = ys.map (entryOfKey (tupleKind (mixKind P w))) ∧ (ys.map (·.1)).Nodup
/-! ### readings -/
end TK
set_option maxHeartbeats 1000000
/-! {e: f for ..}, the keys being tuples -/
/-! dicts whose keys are tuples of numbers and texts, over data -/
namespace PL
open PySem PySem.Spec PyProof.Rows L2
end PL
/-! dicts of lists of one's own; a comprehension over the items of a dict of one's own -/
namespace PL
open PySem PySem.Spec PyProof.Rows L2
end PL
set_option maxHeartbeats 1000000
/-! sorted(xs, key=lambda z: z[0]) -/
namespace PL
open PySem PySem.Spec PyProof.Rows L2
end PL
set_option maxHeartbeats 1000000
/-! a list comprehension whose element may raise -/
/-! a list of steps, each a tuple of three lists, the last one still grows; tuple.index; comprehensions told as lists -/
namespace PL
open PySem PySem.Spec PyProof.Rows L2
variable [Nm]
section
variable {K : PySem.W.Frag} {ρ : Rho} {I J L N : Asn} {ta tb tc te : TE} {tr : TA} {x y : PyData} {ts us : TS} {k : Out}
structure P3 where
  p : List PyData
  s : List PyData
  f : List PyData
def P3.d (c : P3) : PyData := .tuple [.list c.p, .list c.s, .list c.f]
structure A4 where
  t : Addr
  a : Addr
  b : Addr
  c : Addr
structure A4.ok (w : A4) (q : Addr) : Prop where
  qa : q ≠ w.a
  qb : q ≠ w.b
  qc : q ≠ w.c
  ab : w.a ≠ w.b
  ac : w.a ≠ w.c
  bc : w.b ≠ w.c
end
end PL
/-! lists: xs[i:j], xs[::-1] -/
namespace PL
open PySem PySem.Spec PyProof.Rows L2
variable [Nm]
section
variable {K : PySem.W.Frag} {ρ : Rho} {I J L N : Asn} {ta tb tc te : TE} {tr : TA} {ds : List PyData}
theorem dpa_rev {G : Hp} : ∀ {vs : List V} {ds : List PyData}, DpAll K G vs ds → DpAll K G vs.reverse ds.reverse
  | _, _, .nil => .nil
  | _, _, .cons a b => by
    rw [List.reverse_cons, List.reverse_cons]
    exact dpa_app (dpa_rev b) (.cons a .nil)
theorem e_revL (ha : E K ta ρ I (.d (.list ds)) J) : E K (tRevL K ta) ρ I (.l ds.reverse) J := fun G H σ gh en io Q q =>
  ha G H σ gh en io _ fun v G1 H1 g1 gh1 j1 dv => by
    cases dv with
    | lst s r =>
      rename_i a xs
      refine ⟨a, xs, rfl, gh1.seq s, fun p hp => ?_⟩
      have st := Stp.new (o := .lst xs.reverse) gh1 hp
      exact q _ _ _ (g1.trans st.gg) st.gh (Asn.pure_st st j1) ⟨p, _, rfl, upd_same, dpa_rev (dp_monos st.gg ds xs r)⟩
end
end PL
/-! sep.join(reversed(a list of texts)) -/
namespace L2
open PySem PySem.W PySem.Calls PyProof.Rows PyProof.V PySem.Spec
end L2
/-! int(a text of more than 640 signs) -/
namespace PySem.W
open PySem PySem.Calls PySem.NumText PyProof.Rows
namespace KIN
end KIN
end PySem.W
namespace L2
open PySem PySem.Spec PyProof.Rows
end L2
/-! texts: figures, parts, slices, signs -/
namespace L2
open PySem PySem.Spec PyProof.Rows
end L2
namespace PL
open PySem PySem.Spec PyProof.Rows L2
end PL
/-! figures: texts of whole numbers in tens -/
namespace TD
open PySem PySem.NumText PySem.W PySem.W.KIN
end TD
/-! texts as lists of signs -/
namespace TS
open PySem PySem.NumText PySem.W PySem.W.KIN TD PySem.Builtin.Str PyProof.Rows
abbrev sx (l : List Nat) : Str := ⟨l.toArray⟩
/-! ### parts between strokes -/
end TS
/-! all(..), any(..) of a generator expression over the signs of a text -/
namespace PL
open PySem PySem.Spec PyProof.Rows L2 GX
end PL
/-! over data: a comprehension that raises; name += e; a < b < c; texts in texts; len(set(xs)) -/
namespace PL
open PySem PySem.Spec PyProof.Rows L2 TS
end PL
/-! {elt for t0 in i0 if .. for t1 in i1 if ..}, elt a whole number -/
namespace L2
open PySem PySem.Spec PyProof.Rows
/-- the comprehension of two clauses -/
abbrev sc2 (elt t0 i0 t1 i1 : Expr) (f0 f1 : List Expr) (sc : Scope) (pos : Pos) : Expr := .SetComp elt [⟨t0, i0, f0, 0⟩, ⟨t1, i1, f1, 0⟩] sc pos
section
variable {P : Program} {w : World} {A : Around} {R : Result → Shared → Prop} {s : Shared} {elt t0 i0 t1 i1 : Expr} {f0 f1 : List Expr} {sc : Scope} {pos : Pos} {it acc : Value} {env : Env}
theorem sc2_turn0 : compTurn (sc2 elt t0 i0 t1 i1 f0 f1 sc pos) 0 it acc env = (do
      standAt i0.pos
      match ← pyNext it with
      | none => pure (.done .next)
      | some v =>
        letOwnedTupleGo t0 it v; assign t0 env v
        let mut go := true
        for c in f0 do
          if go then go ← isTrue c env (eval c env)
        if go then
          let y ← eval i1 env
          standAt i1.pos; let y ← foldedSetIterable i1 env y
          let _ ← runOwn (.compStart (sc2 elt t0 i0 t1 i1 f0 f1 sc pos) 1 (← holding [y] (pyIter y)) acc env) env
        again (.compLoop (sc2 elt t0 i0 t1 i1 f0 f1 sc pos) 0 it acc env)) := by rfl
theorem sc2_turn1 : compTurn (sc2 elt t0 i0 t1 i1 f0 f1 sc pos) 1 it acc env = (do
      standAt i1.pos
      match ← pyNext it with
      | none => pure (.done .next)
      | some v =>
        letOwnedTupleGo t1 it v; assign t1 env v
        let mut go := true
        for c in f1 do
          if go then go ← isTrue c env (eval c env)
        if go then
          (do let y ← eval elt env; standAt elt.pos; let _ ← call (.builtin "set.add") [acc, y])
        again (.compLoop (sc2 elt t0 i0 t1 i1 f0 f1 sc pos) 1 it acc env)) := by rfl
/-- what an error within does -/
abbrev noteR (P : Program) (w : World) (A : Around) (env : Env) (R : Result → Shared → Prop) : Value → Shared → Prop := notedBy (model P w) A env fun x s' => R (.error x) s'
abbrev testsR (fs : List Expr) (env : Env) : Sem Bool := forIn fs true fun c r => if r = true then do let ok ← isTrue c env (eval c env); pure (ForInStep.yield ok) else pure (ForInStep.yield r)
theorem sc2_loop0 (hs : ∀ x, foldedSetIterable i1 env x = pure x) (I : Nat → Shared → Prop)
    (step : ∀ n s, I n s → wpAny (model P w) A (pyNext it) (fun r a => match r with
      | none => R (.ok .next) a
      | some v => wpAny (model P w) A (letOwnedTupleGo t0 it v) (fun _ b => wpAny (model P w) A (assign t0 env v) (fun _ c =>
          wpAny (model P w) A (testsR f0 env) (fun go d =>
            if go = true then wpAny (model P w) A (eval i1 env) (fun y e => wpAny (model P w) A (pyIter y) (fun jt f =>
              codeAny (model P w) A (.compStart (sc2 elt t0 i0 t1 i1 f0 f1 sc pos) 1 jt acc env) (fun r z => match r with
                | .ok _ => ∃ m, m < n ∧ I m z
                | .error _ => False) f) (noteR P w A env R) e) (noteR P w A env R) d
            else ∃ m, m < n ∧ I m d) (noteR P w A env R) c) (noteR P w A env R) b) (noteR P w A env R) a) (noteR P w A env R) s)
    (n : Nat) (h : I n s) : codeAny (model P w) A (.compLoop (sc2 elt t0 i0 t1 i1 f0 f1 sc pos) 0 it acc env) R s := by
  refine codeAny_loop rfl I (fun n s hI => ?_) n h
  show wpAny _ A ((compTurn (sc2 elt t0 i0 t1 i1 f0 f1 sc pos) 0 it acc env).onRaise (fun x => do noteFrame x env; theTreesLotGoes x)) _ _ s
  refine wpAny_noted ?_
  rw [sc2_turn0]
  refine wpAny_bind (wpAny_standAt (wpAny_bind (wpAny_mono (step n s hI) (fun r a ha => ?_) fun _ _ z => z)))
  cases r with
  | none => exact wpAny_pure ha
  | some v =>
    refine wpAny_bind (wpAny_mono ha (fun _ b hb => ?_) fun _ _ z => z)
    refine wpAny_bind (wpAny_mono hb (fun _ c hc => wpAny_bind (wpAny_mono hc (fun go d hd => ?_) fun _ _ z => z)) fun _ _ z => z)
    cases go with
    | false => exact wpAny_pure ⟨rfl, hd⟩
    | true =>
      refine wpAny_bind (wpAny_mono hd (fun y e he => ?_) fun _ _ z => z)
      refine wpAny_bind (wpAny_standAt (wpAny_bind (wpAny_of_eq (hs y) (wpAny_bind (wpAny_holding (wpAny_mono he (fun jt f hf => ?_) fun _ _ z => z))))))
      refine wpAny_bind (wpAny_runOwn ?_)
      rw [Around.mark_none]
      refine codeAny_mono hf fun r z hr => ?_
      cases r with
      | ok g => first | exact wpAny_pure ⟨rfl, hr⟩ | exact wpAny_bind (wpAny_pure (wpAny_pure ⟨rfl, hr⟩))
      | error g => exact hr.elim
theorem sc2_loop1 (I : Nat → Shared → Prop)
    (step : ∀ n s, I n s → wpAny (model P w) A (pyNext it) (fun r a => match r with
      | none => R (.ok .next) a
      | some v => wpAny (model P w) A (letOwnedTupleGo t1 it v) (fun _ b => wpAny (model P w) A (assign t1 env v) (fun _ c =>
          wpAny (model P w) A (testsR f1 env) (fun go d =>
            if go = true then wpAny (model P w) A (eval elt env) (fun y e =>
              wpAny (model P w) A (call (.builtin "set.add") [acc, y]) (fun _ f => ∃ m, m < n ∧ I m f) (noteR P w A env R) e) (noteR P w A env R) d
            else ∃ m, m < n ∧ I m d) (noteR P w A env R) c) (noteR P w A env R) b) (noteR P w A env R) a) (noteR P w A env R) s)
    (n : Nat) (h : I n s) : codeAny (model P w) A (.compLoop (sc2 elt t0 i0 t1 i1 f0 f1 sc pos) 1 it acc env) R s := by
  refine codeAny_loop rfl I (fun n s hI => ?_) n h
  show wpAny _ A ((compTurn (sc2 elt t0 i0 t1 i1 f0 f1 sc pos) 1 it acc env).onRaise (fun x => do noteFrame x env; theTreesLotGoes x)) _ _ s
  refine wpAny_noted ?_
  rw [sc2_turn1]
  refine wpAny_bind (wpAny_standAt (wpAny_bind (wpAny_mono (step n s hI) (fun r a ha => ?_) fun _ _ z => z)))
  cases r with
  | none => exact wpAny_pure ha
  | some v =>
    refine wpAny_bind (wpAny_mono ha (fun _ b hb => ?_) fun _ _ z => z)
    refine wpAny_bind (wpAny_mono hb (fun _ c hc => wpAny_bind (wpAny_mono hc (fun go d hd => ?_) fun _ _ z => z)) fun _ _ z => z)
    cases go with
    | false => exact wpAny_pure ⟨rfl, hd⟩
    | true => exact wpAny_bind (wpAny_bind (wpAny_mono hd (fun y e he => wpAny_bind (wpAny_standAt (wpAny_bind (wpAny_mono he (fun _ f hf => wpAny_pure (wpAny_pure ⟨rfl, hf⟩)) fun _ _ z => z)))) fun _ _ z => z))
theorem sc2_start1 (h0 : codeAny (model P w) A (.compLoop (sc2 elt t0 i0 t1 i1 f0 f1 sc pos) 1 it acc env) R s)
    (h : wpAny (model P w) A (pyIter it) (fun jt z => codeAny (model P w) A (.compLoop (sc2 elt t0 i0 t1 i1 f0 f1 sc pos) 1 jt acc env) R z) (noteR P w A env R) s) :
    codeAny (model P w) A (.compStart (sc2 elt t0 i0 t1 i1 f0 f1 sc pos) 1 it acc env) R s := by
  refine codeAny_of_tree ?_
  show wpAny _ _ ((compStart (sc2 elt t0 i0 t1 i1 f0 f1 sc pos) 1 it acc env).onRaise (fun x => do noteFrame x env; standAt theWindowsPlace)) _ _ s
  refine wpAny_notedAt ?_
  unfold compStart
  show wpAny _ _ (ask >>= _) _ _ s
  refine wpAny_bind (wpAny_askSetting (wpAny_ite ?_))
  split
  · first | exact wpAny_bind (wpAny_pure (wpAny_pure (And.intro rfl h0))) | exact wpAny_pure (And.intro rfl h0)
  · refine wpAny_bind (wpAny_rule ?_)
    first
      | exact wpAny_bind (wpAny_standAt (wpAny_bind (wpAny_mono h (fun jt z hz => wpAny_pure (And.intro rfl hz)) fun _ _ z => z)))
      | (show wpAny _ _ (standAt i1.pos >>= _) _ _ s; exact wpAny_bind (wpAny_standAt (wpAny_bind (wpAny_mono h (fun jt z hz => wpAny_pure (And.intro rfl hz)) fun _ _ z => z))))
end
section
variable {X : Cx}
/-- a whole number into the set at D -/
theorem setO_add {pins : List (Addr × Obj)} {σ : L2.St} {H : Hp} {s : Shared} {E : Value → Shared → Prop} {D : Addr} {S : Int → Bool} {n : Nat} {k : Int} {u : Value} {Q : Value → Shared → Prop} (I : Inv X pins σ H s) (hD : H D = some (SetO X.w D S n)) (room : n + 1 < scanBound) (r : RelV (.int k) u)
    (h : ∀ z, Inv X pins σ (upd H D (SetO X.w D (fun j => S j || decide (j = k)) (if S k = true then n else n + 1))) z → Q .none z) : wpAny (model X.prog X.w) X.A (call (.builtin "set.add") [.ref D, u]) Q E s := by
  obtain ⟨t, rfl⟩ := r
  refine setR_add (setO_get I hD) room fun g sb new => ?_
  have he : ∃ u, g.get? D = some u := by
    have ⟨o, _, _, _, ho, _⟩ := new
    exact ⟨o, ho⟩
  refine h _ (I.write (e := D) (t' := s.toks + 1) (by rw [hD]; trivial) (.inl rfl) (fun b u hb hu => ?_) he (setO_new new))
  exact (sb.2 b hb).trans hu
end
end L2
set_option maxHeartbeats 4000000
namespace L2
open PySem PySem.Spec PyProof.Rows PpSet
section
variable {X : Cx}
/-- {elt for t0 in i0 if .. for t1 in i1 if ..}: D the new set of whole numbers; vs the block's names, us those of the second target -/
def tSs2 (w : World) (wi : TI) (g : TG) (tt : TT) (wj : TI) (gj : TG) (tj : TT) (te : TE) (vs us : List Nat) : TE := fun σ H Q => wi σ H fun J H1 => ∀ D, H1 D = none → ∃ W : Nat → Nat → Hp → Prop, (∃ m, W 0 m (upd H1 D (SetO w D (fun _ => false) 0))) ∧ ∀ i m H, W i m H →
  (J.stop i H ∧ Q (.ref D) H) ∨ (J.go i H ∧ ∃ Nx : Hp → Prop, (∀ Z, Nx Z → ∃ k, k < m ∧ W (i + 1) k Z) ∧ ∀ x Z, J.yld i H x Z → g x (wipe σ vs) Z fun σ2 H2 => wipe σ2 vs = wipe σ vs ∧ tt σ2 H2 fun b H3 =>
    if b = true then wj σ2 H3 fun L H4 => ∃ U : Nat → Nat → Hp → Prop, (∃ m, U 0 m H4) ∧ ∀ j k H, U j k H →
      (L.stop j H ∧ Nx H) ∨ (L.go j H ∧ ∃ Ny : Hp → Prop, (∀ Z, Ny Z → ∃ l, l < k ∧ U (j + 1) l Z) ∧ ∀ x Z, L.yld j H x Z → gj x (wipe σ2 us) Z fun σ3 H5 => wipe σ3 us = wipe σ2 us ∧ tj σ3 H5 fun c H6 =>
        if c = true then te σ3 H6 fun y H7 => ∃ (n : Int) (S : Int → Bool) (z : Nat), y = .int n ∧ H7 D = some (SetO w D S z) ∧ z + 1 < scanBound ∧ Ny (upd H7 D (SetO w D (fun j => S j || decide (j = n)) (if S n = true then z else z + 1))) else Ny H6)
    else Nx H3)
/-- whatever the block's context -/
abbrev InB (X : Cx) (sc : Scope) (p : Cx → Prop) : Prop := ∀ (a : Shared) (H : Hp) (C : Addr) (cl : List (PySem.Str × Addr)) (fp : List Addr), p (X.blk a H sc (compEnvC sc cl C X.env) fp)
theorem sc2_core {pins : List (Addr × Obj)} {a : Shared} {σ : L2.St} {H : Hp} {Q : VK} {elt tg iter th jter : Expr} {f0 f1 : List Expr} {sc : Scope} {own : List (PySem.Str × Nat)} {us : List Nat} {pos pq : Pos} {wi wj : TI} {g gj : TG} {tt tj : TT} {te : TE} {use : Option (Value → Sem Unit)} {Qf : Value → Shared → Prop}
    (calm : X.calm = true) (nd : X.N.Nodup) (I : Inv X pins σ H a) (pi0 : PI X tg iter wi) (bok : BlkOk X.N X.env.scope sc own) (sub : ∀ i ∈ us, i ∈ own.map (·.2))
    (hg : InB X sc fun Y => PG Y tg g) (ht : InB X sc fun Y => PTs Y f0 tt) (he : InB X sc fun Y => PE Y elt te) (s0 : ∀ x, foldedSetIterable iter X.env x = pure x)
    (hj : InB X sc fun Y => PI Y th jter wj) (hgj : InB X sc fun Y => PG Y th gj) (htj : InB X sc fun Y => PTs Y f1 tj) (s1 : ∀ env x, foldedSetIterable jter env x = pure x)
    (h : tSs2 X.w wi g tt wj gj tj te (own.map (·.2)) us σ H Q)
    (post : ∀ D C b m Z, Inv X pins σ Z b → Q (.ref D) Z → b.heap.Ns C m → FpOk X pins Z C → compPost (model X.prog X.w) X.A X.xe use Qf (.ref D) C (.ok .next) b) :
    wpAny (model X.prog X.w) X.A (comprehension (sc2 elt tg iter th jter f0 f1 sc pos) sc X.env pq (newSet (.type "set")) false (eval iter X.env) use) Qf X.xe a := by
  have frees : ∀ y ∈ sc.names, y.2 = .free → ∃ c, X.env.cells.lookup y.1 = some c := fun y hy e => (bok.free y hy e).elim (fun k => I.ok.has _ (.inl k)) fun k => I.ok.has _ (.inr k)
  refine wpAny_comprehension_free (use := use) rfl s0 (closure_ok frees) bok.kind (fun y hy e => by rw [bok.uniq y hy, e]) (thn (pi0.run pins a σ H _ I h) fun xv a1 hx => thn hx fun iv a2 h2 => ?_)
  obtain ⟨it, fp, tn, J, H2, rfl, I2, T, st2, f2, q⟩ := h2
  refine newSet_ok (newEnv_comp ?_)
  generalize hD : a2.heap.objs.size = D
  have dn : H2 D = none := I2.hok.fresh (Nat.le_of_eq hD)
  obtain ⟨W, ⟨m0, w0⟩, turn⟩ := q D dn
  generalize ha3 : ({ a2 with heap := a2.heap.push { cls := .type "set", dict := none, data := .set #[] 0 (.fresh 0 0 (!X.w.params.followText "set-order")) } } : Shared) = a3
  have old3 : ∀ b o, a2.heap.get? b = some o → a3.heap.get? b = some o := fun b o e => by rw [← ha3]; exact Heap.get?_push_of_some _ e
  have len3 : a3.heap.objs.size = a2.heap.objs.size + 1 := by rw [← ha3]; exact Heap.size_push _ _
  have I3 : Inv X pins σ (upd H2 D (SetO X.w D (fun _ => false) 0)) a3 := by
    rw [← ha3]
    refine I2.laid (t' := a2.toks) (fun b o e => Heap.get?_push_of_some _ e) (Nat.le_of_eq hD) ?_
    rw [← hD]; exact setO_new (setR_fresh X.w)
  have inn : ∀ b ∈ fp, b < a2.heap.objs.size := fun b hb => let ⟨_, e, _⟩ := T.obj _ _ st2 b hb; Heap.lt_size e
  have f3 : ∀ b ∈ fp, FpOk X pins (upd H2 D (SetO X.w D (fun _ => false) 0)) b ∧ b < a3.heap.objs.size := fun b hb => by
    have lt := inn b hb
    refine ⟨⟨?_, (f2 b hb).2⟩, by rw [len3]; exact Nat.lt_succ_of_lt lt⟩
    rw [upd_ne (by rw [← hD]; exact Nat.ne_of_lt lt)]; exact (f2 b hb).1
  have st3 : tn 0 a3.heap := T.keep _ _ _ st2 fun b _ o e => old3 b o e
  have I4 := block_start I3 bok nd f3
  generalize hcl : cellsFrom (a3.heap.objs.size + 1) sc.names (cloFrom X.env.cells sc.names []) = cl at I4 ⊢
  have free3 : ∀ b ∈ fp, (upd H2 D (SetO X.w D (fun _ => false) 0)) b = none := fun b hb => (f3 b hb).1.1
  generalize hH3 : upd H2 D (SetO X.w D (fun _ => false) 0) = H3 at I3 I4 w0 free3 f3
  have pg := hg a3 H3 a3.heap.objs.size cl fp
  have pt := ht a3 H3 a3.heap.objs.size cl fp
  have pe := he a3 H3 a3.heap.objs.size cl fp
  have qi := hj a3 H3 a3.heap.objs.size cl fp
  have qg := hgj a3 H3 a3.heap.objs.size cl fp
  have qt := htj a3 H3 a3.heap.objs.size cl fp
  show codeAny _ _ (.compStart (sc2 elt tg iter th jter f0 f1 sc pos) 0 (.ref it) (.ref D) (compEnvC sc cl a3.heap.objs.size X.env)) (compPost (model X.prog X.w) X.A X.xe use Qf (.ref D) a3.heap.objs.size) { a3 with heap := pushCells (a3.heap.push { cls := .type "dict", data := .dict #[] }) sc.names }
  generalize hce : compEnvC sc cl a3.heap.objs.size X.env = ce at I4 pg pt pe qi qg qt ⊢
  have loc : ce.locals = a3.heap.objs.size := by subst hce; rfl
  generalize ha4 : ({ a3 with heap := pushCells (a3.heap.push { cls := .type "dict", data := .dict #[] }) sc.names } : Shared) = a4 at I4 ⊢
  have st4 : tn 0 a4.heap := T.keep _ _ _ st3 fun b _ o e => by rw [← ha4]; exact pushCells_keeps _ _ _ _ (Heap.get?_push_of_some _ e)
  have fpY : ∀ {σ' : L2.St} {Z : Hp} {b : Shared}, Inv (X.blk a3 H3 sc ce fp) [] σ' Z b → (∀ p ∈ fp, Z p = none) → ∀ p ∈ fp, FpOk (X.blk a3 H3 sc ce fp) [] Z p := fun K n p hp =>
    ⟨n p hp, (K.ok.exf p hp).1, K.ok.exfs p hp, .inl hp, fun x c e => (K.ok.exf p hp).2 x c e, fun r hr => absurd (show r ∈ ([] : List (Addr × Obj)) ++ [] from hr) (by simp)⟩
  -- what is kept from turn to turn
  let Keep : Nat → Shared → Prop := fun n b => ∃ i Z, Inv (X.blk a3 H3 sc ce fp) [] (wipe σ (own.map (·.2))) Z b ∧ tn i b.heap ∧ (∀ p ∈ fp, Z p = none) ∧ W i n Z
  have loop : codeAny (model X.prog X.w) X.A (.compLoop (sc2 elt tg iter th jter f0 f1 sc pos) 0 (.ref it) (.ref D) ce) (compPost (model X.prog X.w) X.A X.xe use Qf (.ref D) a3.heap.objs.size) a4 := by
    refine sc2_loop0 (s1 ce) Keep ?_ m0 ⟨0, H3, I4, st4, free3, w0⟩
    rintro n b5 ⟨i, H5, I5, st5, n5, w5⟩
    rcases turn i n H5 w5 with ⟨stop, out⟩ | ⟨go, Nx, hNx, step⟩
    · refine thnF (T.done (X.blk a3 H3 sc ce fp) rfl rfl rfl calm i [] b5 _ H5 (fun _ _ => False) I5 (fpY I5 n5) st5 stop) fun r b6 ⟨hr, I6⟩ => ?_
      subst hr
      have back : Inv X pins σ H5 b6 := I3.call' (ch := fp) I6.os I6.base I6.hok I6.bare fun p hp => let z := (f3 p hp).1.2; ⟨z.2.2.1, z.1, z.2.2.2.1, z.2.2.2.2⟩
      have nC : H5 a3.heap.objs.size = none := by rw [← loc]; exact I6.free
      obtain ⟨m, hn, _⟩ := I6.loc
      rw [show (X.blk a3 H3 sc ce fp).env.locals = a3.heap.objs.size from loc] at hn
      exact post D a3.heap.objs.size b6 m H5 back out hn (I3.fpOk (Nat.le_refl _) nC)
    · refine thnF (T.item (X.blk a3 H3 sc ce fp) rfl rfl rfl calm i [] b5 _ H5 (fun _ _ => False) I5 (fpY I5 n5) st5 go) fun r b6 ⟨u, hr, h6⟩ => ?_
      subst hr
      refine thnF h6 fun _ b7 ⟨x, H7, I7, r7, y7, st7, n7⟩ => ?_
      have P7 := I7.pinned (fpY I7 n7) (T.obj _ _ st7)
      refine thnF (pg.run _ b7 _ H7 x u _ P7 r7 (step x H7 y7)) fun _ b8 ⟨σ8, H8, I8, e8, q8⟩ => ?_
      refine thnF (pt.run _ b8 σ8 H8 _ I8 q8) fun go b9 ⟨H9, I9, q9⟩ => ?_
      -- a turn is over, whatever slots are known that the block knew at first
      have over : ∀ {τ : L2.St} {b : Shared} {Z : Hp}, Inv (X.blk a3 H3 sc ce fp) ([] ++ pinsAt fp b7.heap) τ Z b → (wipe σ (own.map (·.2))).length = τ.length → (∀ (j : Nat) v, (wipe σ (own.map (·.2)))[j]? = some (some v) → τ[j]? = some (some v)) → Nx Z → ∃ k, k < n ∧ Keep k b := fun {τ b Z} K hl hk nx => by
        obtain ⟨k, lt, wk⟩ := hNx Z nx
        have pin : ∀ p ∈ fp, ∀ o, b7.heap.get? p = some o → b.heap.get? p = some o ∧ Z p = none := fun p hp o e => let z := K.pin (p, o) (List.mem_append_right _ (List.mem_append_right _ (mem_pinsAt hp e))); ⟨z.1, z.2.1⟩
        exact ⟨k, lt, i + 1, Z, (K.unpinned (pins := [])).weak hl hk, T.keep _ _ _ st7 fun p hp o e => (pin p hp o e).1, fun p hp => let ⟨o, e, _⟩ := T.obj _ _ st7 p hp; (pin p hp o e).2, wk⟩
      have l8 : (wipe σ (own.map (·.2))).length = σ8.length := by rw [← e8, wipe_length]
      have k8 : ∀ (j : Nat) v, (wipe σ (own.map (·.2)))[j]? = some (some v) → σ8[j]? = some (some v) ∧ (wipe σ8 us)[j]? = some (some v) := fun j v e => by
        rw [← e8] at e
        obtain ⟨x1, x2⟩ := wipe_some e
        exact ⟨x1, by rw [wipe_out fun z => x2 (sub j z)]; exact x1⟩
      cases go with
      | false =>
        simp only [Bool.false_eq_true, if_false] at q9 ⊢
        exact over I9 l8 (fun j v e => (k8 j v e).1) q9
      | true =>
        simp only [if_true] at q9 ⊢
        refine thnF (qi.run _ b9 σ8 H9 _ I9 q9) fun yv b10 hy => thnF hy fun jv b11 h11 => ?_
        obtain ⟨jt, gp, un, L, H11, rfl, I11, U, st11, f11, V, ⟨m1, v1⟩, turn1⟩ := h11
        have gpY : ∀ {Z : Hp}, (∀ p ∈ gp, Z p = none) → ∀ p ∈ gp, FpOk (X.blk a3 H3 sc ce fp) ([] ++ pinsAt fp b7.heap) Z p := fun z p hp => ⟨z p hp, (f11 p hp).2⟩
        have inner : codeAny (model X.prog X.w) X.A (.compLoop (sc2 elt tg iter th jter f0 f1 sc pos) 1 (.ref jt) (.ref D) ce) (fun r b => match r with | .ok _ => ∃ m, m < n ∧ Keep m b | .error _ => False) b11 := by
          refine sc2_loop1 (fun k b => ∃ j Z, Inv (X.blk a3 H3 sc ce fp) ([] ++ pinsAt fp b7.heap) (wipe σ8 us) Z b ∧ un j b.heap ∧ (∀ p ∈ gp, Z p = none) ∧ V j k Z) ?_ m1 ⟨0, H11, I11.weak (wipe_length _ _) (fun j v e => (wipe_some e).1), st11, fun p hp => (f11 p hp).1, v1⟩
          rintro k b12 ⟨j, H12, I12, st12, n12, v12⟩
          rcases turn1 j k H12 v12 with ⟨stop1, nx⟩ | ⟨go1, Ny, hNy, step1⟩
          · refine thnF (U.done (X.blk a3 H3 sc ce fp) rfl rfl rfl calm j _ b12 (wipe σ8 us) H12 (fun _ _ => False) I12 (gpY n12) st12 stop1) fun r b13 ⟨hr, I13⟩ => ?_
            subst hr
            exact over I13 (l8.trans (wipe_length σ8 us).symm) (fun j v e => (k8 j v e).2) nx
          · refine thnF (U.item (X.blk a3 H3 sc ce fp) rfl rfl rfl calm j _ b12 (wipe σ8 us) H12 (fun _ _ => False) I12 (gpY n12) st12 go1) fun r b13 ⟨v, hr, h13⟩ => ?_
            subst hr
            refine thnF h13 fun _ b14 ⟨y, H14, I14, r14, y14, st14, n14⟩ => ?_
            have P14 := I14.pinned (gpY n14) (U.obj _ _ st14)
            refine thnF (qg.run _ b14 (wipe σ8 us) H14 y v _ P14 r14 (step1 y H14 y14)) fun _ b15 ⟨σ15, H15, I15, e15, q15⟩ => ?_
            refine thnF (qt.run _ b15 σ15 H15 _ I15 q15) fun go2 b16 ⟨H16, I16, q16⟩ => ?_
            have over1 : ∀ {b : Shared} {Z : Hp}, Inv (X.blk a3 H3 sc ce fp) (([] ++ pinsAt fp b7.heap) ++ pinsAt gp b14.heap) σ15 Z b → Ny Z → ∃ m, m < k ∧ ∃ j Z, Inv (X.blk a3 H3 sc ce fp) ([] ++ pinsAt fp b7.heap) (wipe σ8 us) Z b ∧ un j b.heap ∧ (∀ p ∈ gp, Z p = none) ∧ V j m Z := fun {b Z} K ny => by
              obtain ⟨l, lt, vl⟩ := hNy Z ny
              have pin : ∀ p ∈ gp, ∀ o, b14.heap.get? p = some o → b.heap.get? p = some o ∧ Z p = none := fun p hp o e => let z := K.pin (p, o) (List.mem_append_right _ (List.mem_append_right _ (mem_pinsAt hp e))); ⟨z.1, z.2.1⟩
              exact ⟨l, lt, j + 1, Z, K.unpinned.weak (by rw [← e15, wipe_length]) (fun j v e => by rw [← e15] at e; exact (wipe_some e).1), U.keep _ _ _ st14 fun p hp o e => (pin p hp o e).1, fun p hp => let ⟨o, e, _⟩ := U.obj _ _ st14 p hp; (pin p hp o e).2, vl⟩
            cases go2 with
            | false =>
              simp only [Bool.false_eq_true, if_false] at q16 ⊢
              exact over1 I16 q16
            | true =>
              simp only [if_true] at q16 ⊢
              refine thnF (pe.run _ b16 σ15 H16 _ I16 q16) fun z b17 ⟨yw, H17, I17, r17, num, S0, c0, ew, hD17, room, ny⟩ => ?_
              subst ew
              exact setO_add (X := X.blk a3 H3 sc ce fp) I17 hD17 room r17 fun b18 I18 => over1 I18 ny
        exact sc2_start1 inner (U.self X.A 0 _ _ _ st11 inner)
  exact codeAny_compStart_set loop (T.self X.A 0 _ _ _ st4 loop)
theorem pe_ss2 {elt tg iter th jter : Expr} {f0 f1 : List Expr} {sc : Scope} {own : List (PySem.Str × Nat)} {us : List Nat} {pos : Pos} {wi wj : TI} {g gj : TG} {tt tj : TT} {te : TE} (calm : X.calm = true) (nd : X.N.Nodup) (pi0 : PI X tg iter wi) (bok : BlkOk X.N X.env.scope sc own) (sub : ∀ i ∈ us, i ∈ own.map (·.2))
    (hg : InB X sc fun Y => PG Y tg g) (ht : InB X sc fun Y => PTs Y f0 tt) (hj : InB X sc fun Y => PI Y th jter wj) (hgj : InB X sc fun Y => PG Y th gj) (htj : InB X sc fun Y => PTs Y f1 tj) (he : InB X sc fun Y => PE Y elt te) (s0 : ∀ x, foldedSetIterable iter X.env x = pure x := by intro _; rfl) (s1 : ∀ env x, foldedSetIterable jter env x = pure x := by intro _ _; rfl) :
    PE X (.SetComp elt [⟨tg, iter, f0, 0⟩, ⟨th, jter, f1, 0⟩] sc pos) (tSs2 X.w wi g tt wj gj tj te (own.map (·.2)) us) := by
  refine ⟨fun pins a σ H Q I h => ?_⟩
  rw [eval_SetComp]
  refine sc2_core calm nd I pi0 bok sub hg ht he s0 hj hgj htj s1 h fun D C b m Z K q hn f => ⟨m, hn, fun h2 sb => ?_⟩
  exact ⟨.ref D, Z, K.turned (t' := b.toks) (fun p o hp e => (sb.2 p hp).trans e) f.1 f.2.1 f.2.2.2.1 f.2.2.2.2.1 f.2.2.2.2.2, rfl, q⟩
end
end L2
/-! sorted of a set of tuples of whole numbers of any lengths, told by their first numbers -/
namespace L2
open PySem PySem.Spec PyProof.Rows SrtO Srt SrtD SrtG
/-- what stands at an address of the set -/
def tupAt (L : List (Addr × List Int)) : Value → PyData
  | .ref b => match L.find? fun p => p.1 == b with
    | some p => .tuple (p.2.map .int)
    | none => .none
  | _ => .none
def hd0 (p : Addr × List Int) : Int := p.2.headD 0
theorem key1_tup (ns : List Int) : key1 (.tuple (ns.map .int)) = ns.headD 0 := by
  cases ns <;> rfl
section
variable {P : Program} {w : World} {A : Around} {E : Value → Shared → Prop} {s : Shared}
theorem isT_reads {h : Heap} {k : List Int} {b : Addr} (x : IsT P w h k b) : ∃ as, Reads h (.ref b) (.tuple (k.map .int)) as := by
  obtain ⟨o, its, n, ho, hc, hd, hi⟩ := x
  have key : ∀ {k : List Int} {vs : List Value}, ItemsAre (intKind P w) k vs → ReadsAll h vs (k.map .int) [] := by
    intro k vs hi
    induction hi with
    | nil => exact .nil
    | cons a _ ih =>
      obtain ⟨i, t, e⟩ := items_int (.cons a .nil) _ List.mem_cons_self
      subst e
      have : i = _ := eq_of_beq a
      subst this
      exact .cons (.int _ t) ih
  exact ⟨_, .tuple ho hc hd (key hi)⟩
variable {a : Addr} {L : List (Addr × List Int)} {es : Array (Int × Value)} {ep : Nat} {t : SetTable}
theorem tupAt_mem (R : SetTR P w s.heap a L es ep t) {p : Addr × List Int} (hp : p ∈ L) : tupAt L (.ref p.1) = .tuple (p.2.map .int) := by
  unfold tupAt
  cases e : L.find? fun q => q.1 == p.1 with
  | none =>
    have := List.find?_eq_none.mp e p hp
    simp at this
  | some q =>
    have h1 : q.1 = p.1 := by simpa using List.find?_some e
    have a1 := R.tup q (List.mem_of_find?_eq_some e)
    rw [h1] at a1
    have e2 := a1.inj (R.tup p hp)
    show (match L.find? (fun q => q.1 == p.1) with | some p => PyData.tuple (p.2.map .int) | none => .none) = _
    rw [e]
    show PyData.tuple (q.2.map .int) = _
    rw [e2]
theorem sorted_setH {Q : Value → Shared → Prop} (R : SetTR P w s.heap a L es ep t) (hh : A.handled = none) (hu : A.in1.in1.units + 64 < cLine) (ne : ∀ p ∈ L, p.2 ≠ []) (nd : (L.map hd0).Nodup)
    (hQ : ∀ z p (out : Array Value) (c : Nat) (M : List (Addr × List Int)), (∀ b o, s.heap.get? b = some o → z.heap.get? b = some o) → z.gens = s.gens → z.os = s.os → s.heap.objs.size ≤ p →
      z.heap.get? p = some (seqObj "list" out c) → out.toList = M.map (fun q => Value.ref q.1) → M.Perm L → M.Pairwise (fun q r => hd0 q ≤ hd0 r) → Q (.ref p) z) :
    wpAny (model P w) A (call (.builtin "sorted") [.ref a]) Q E s := by
  obtain ⟨o, ho, hex, hd⟩ := R.ob
  have hsz := R.size
  have few := R.few
  refine Calls.call_function_entry kind_sorted plain_sorted entry_sorted (args_sorted1 _) ?_
  unfold Builtin.«sorted»
  refine wpAny_bind (m := checkCount "sorted" 1 1 _) (wpAny_pure ?_)
  refine wpAny_bind (collect_set (A := A.in1) hh ⟨o, ho, hex.1, hd⟩ R.fits (by unfold scanBound; omega) R.tab.ris R.led fun z vs k1 hz g1 o1 pm => ?_)
  have rows : es.toList.map (·.2) = L.map fun q => Value.ref q.1 := by
    rw [R.rows]; unfold rowsOf
    rw [List.map_map]; rfl
  rw [rows] at pm
  -- each value that came out is a row's address
  have from_L : ∀ v ∈ vs, ∃ q ∈ L, v = .ref q.1 := fun v hv => let ⟨q, hq, e⟩ := List.mem_map.mp (pm.mem_iff.mp hv); ⟨q, hq, e.symm⟩
  have few2 : vs.length < 64 := by rw [pm.length_eq, List.length_map]; exact few
  refine wpAny_bind (wpAny_newList ?_ (by rw [sizeLine_eq]; omega))
  have hoL : (z.heap.push (seqObj "list" vs.toArray 0)).get? z.heap.objs.size = some (seqObj "list" vs.toArray 0) := Heap.get?_push_size _ rfl
  have row : ∀ v ∈ vs, SrtG.IsRow R1 s.heap v (tupAt L v) := fun v hv => by
    obtain ⟨q, hq, rfl⟩ := from_L v hv
    rw [tupAt_mem R hq]
    refine ⟨?_, isT_reads (R.tup q hq)⟩
    have := ne q hq
    cases e : q.2 with
    | nil => exact absurd e this
    | cons x r => exact ⟨x, r.map .int, rfl, fun y hy => by obtain ⟨n, _, rfl⟩ := List.mem_map.mp hy; rfl⟩
  have uniq : ∀ v ∈ vs, ∀ u ∈ vs, R1.key (tupAt L v) = R1.key (tupAt L u) → tupAt L v = tupAt L u := fun v hv u hu e => by
    obtain ⟨q, hq, rfl⟩ := from_L v hv
    obtain ⟨r, hr, rfl⟩ := from_L u hu
    rw [tupAt_mem R hq, tupAt_mem R hr] at e ⊢
    have e2 : hd0 q = hd0 r := by
      have : key1 (.tuple (q.2.map .int)) = key1 (.tuple (r.2.map .int)) := e
      rw [key1_tup, key1_tup] at this
      exact this
    rw [inj_of nd q hq r hr e2]
  refine wpAny_bind (wpAny_holding (wpAny_call_entry slot_list_sort ⟨_, hoL, rfl⟩ entry_list_sort (list_sort_ord (ltv := SrtG.ltR R1 (tupAt L)) (SrtG.lt_map R1.swo fun v => R1.key (tupAt L v)) hoL (by rw [sizeLine_eq]; omega) (fun two => ?_) fun out srt stb => ?_) (args_list_sort _)))
  · exact SrtG.rows_sortable (R := R1) (h0 := s.heap) (f := tupAt L) hu (by omega) row uniq fun b o e => ⟨fun eb => by
      have lt := Heap.lt_size (k1 b o e)
      rw [eb] at lt
      exact absurd lt (Nat.lt_irrefl _), Heap.get?_push_of_some _ (k1 b o e)⟩
  · refine ⟨_, rfl, wpAny_pure ⟨_, rfl, ?_⟩⟩
    obtain ⟨c, hc⟩ := sortedHeap_at (vs := vs) (out := out.toArray) hoL
    -- the rows in the order that came out
    have back : ∀ us : List Value, (∀ v ∈ us, ∃ q ∈ L, v = .ref q.1) → ∃ M : List (Addr × List Int), us = M.map (fun q => Value.ref q.1) ∧ ∀ q ∈ M, q ∈ L := fun us => by
      induction us with
      | nil => exact fun _ => ⟨[], rfl, fun q hq => by cases hq⟩
      | cons u us ih =>
        intro hv
        obtain ⟨q, hq, e⟩ := hv u List.mem_cons_self
        obtain ⟨M, e1, hs⟩ := ih fun x hx => hv x (List.mem_cons_of_mem _ hx)
        exact ⟨q :: M, by rw [List.map_cons, ← e1, e], fun r hr => (List.mem_cons.mp hr).elim (fun z => z ▸ hq) (hs r)⟩
    obtain ⟨M, eM, sM⟩ := back out fun v hv => from_L v (stb.perm.mem_iff.mp hv)
    have pM : (M.map (fun q => Value.ref q.1)).Perm (L.map fun q => Value.ref q.1) := by rw [← eM]; exact stb.perm.trans pm
    have one : ∀ q ∈ L, ∀ r ∈ L, q.1 = r.1 → q = r := fun q hq r hr e => by
      have x1 := R.tup q hq
      rw [e] at x1
      exact Prod.ext e (x1.inj (R.tup r hr))
    have ndL : L.Nodup := nodup_of_map R.nd
    have ndR : (L.map fun q => Value.ref q.1).Nodup := List.pairwise_map.mpr (ndL.imp_of_mem fun {q r} hq hr hne e => hne (one q hq r hr (by injection e)))
    have ndM : M.Nodup := nodup_of_map (pM.nodup_iff.mpr ndR)
    have perm : M.Perm L := (List.perm_ext_iff_of_nodup ndM ndL).mpr fun q => ⟨sM q, fun hq => by
      obtain ⟨r, hr, e⟩ := List.mem_map.mp (pM.mem_iff.mpr (List.mem_map.mpr ⟨q, hq, rfl⟩))
      have e1 : r.1 = q.1 := by injection e
      rw [← one r (sM r hr) q hq e1]
      exact hr⟩
    refine hQ _ z.heap.objs.size out.toArray c M (fun b u e => ?_) g1 o1 hz hc (by rw [← eM]) perm ?_
    · have q := k1 b u e
      have lt := Heap.lt_size q
      show (sortedHeap (z.heap.push (seqObj "list" vs.toArray 0)) z.heap.objs.size vs out.toArray).get? b = some u
      rw [sortedHeap_old (Nat.ne_of_lt lt) (by rw [size_push']; exact Nat.lt_succ_of_lt lt)]
      exact Heap.get?_push_of_some _ q
    · have srt : Srtd (SrtG.ltR R1 (tupAt L)) (M.map fun q => Value.ref q.1) := by rw [← eM]; exact srt
      refine List.Pairwise.imp_of_mem (fun {q r} hq hr h => ?_) (List.pairwise_map.mp srt)
      have h : decide (key1 (tupAt L (.ref r.1)) < key1 (tupAt L (.ref q.1))) = false := h
      rw [tupAt_mem R (sM q hq), tupAt_mem R (sM r hr), key1_tup, key1_tup, decide_eq_false_iff_not] at h
      exact Int.not_lt.mp h
end
section
variable {X : Cx}
/-- sorted(set), its tuples told by their first numbers -/
def rSortSH (K : PySem.W.Frag) (P : Program) (w : World) : List V → Hp → VK → Prop := fun vs H Q => ∃ (a : Addr) (L : List (Addr × List Int)), vs = [V.ref a] ∧ H a = some (SetTO P w a L) ∧ (∀ p ∈ L, SqT K H p.1 (p.2.map V.int)) ∧ (∀ p ∈ L, p.2 ≠ []) ∧ ((L.map (·.2)).Nodup → (L.map hd0).Nodup) ∧
  ∀ (M : List (Addr × List Int)) (p : Addr), M.Perm L → (M.map (·.2)).Nodup → M.length < 64 → M.Pairwise (fun q r => hd0 q ≤ hd0 r) → H p = none → Q (.ref p) (upd H p (.lst (M.map fun q => V.ref q.1)))
theorem cr_sortSH (hc : X.calm = true) (hu : X.A.in1.in1.units + 64 < cLine) : CallR X (.builtin "sorted") (rSortSH X.K X.prog X.w) := by
  intro pins s σ H vs us Q I r h
  obtain ⟨a, L, rfl, ha, hk, ne, nd, q⟩ := h
  obtain ⟨es, ep, t, R⟩ := SetT0.full (I.hok a _ ha).1 fun p hp => I.isT (hk p hp)
  rw [Vals.ref1 r]
  refine sorted_setH R (I.ok.hd hc) hu ne (nd R.nd) fun z p out c M k g o hp hg hout pm pw => ?_
  have few : M.length < 64 := by rw [pm.length_eq]; exact R.few
  have hn : H p = none := I.hok.fresh hp
  have hv : Vals (M.map fun q => V.ref q.1) out.toList := by rw [hout]; exact vals_of_refs M
  have fit : (M.map fun q => V.ref q.1).length ≤ sizeLine := by rw [List.length_map, sizeLine_eq]; omega
  have K : Inv X pins σ (upd H p (.lst (M.map fun q => V.ref q.1))) { s with heap := z.heap, gens := z.gens, drawn := z.drawn, toks := z.toks } :=
    I.call (ch := []) (Un.laid k hp hn) (I.hok.laid k hp ⟨fit, out.toList, c, hv, hg⟩) (by rw [g]; exact I.bare) fun _ z => nomatch z
  have e : z = { s with heap := z.heap, gens := z.gens, drawn := z.drawn, toks := z.toks } := by cases z; cases s; cases o; rfl
  rw [e]
  exact ⟨.ref p, _, K, rfl, q M p pm ((pm.map (·.2)).nodup_iff.mpr R.nd) few pw hn⟩
end
end L2
/-! list(d.values()); sorted of a set of whole numbers that a comprehension makes; sorted(set(xs)) of tuples -/
namespace L2
open PySem PySem.Spec PyProof.Rows SrtG
def valuesO (p d : Addr) : HO := .ext fun h => h.IsValuesView p d
theorem valuesO_ok {P : Program} {w : World} {H : Hp} {h : Heap} {p d : Addr} (e : h.get? p = some { cls := .type "dict_values", data := .fields #[.ref d] }) : ObjOk P w H h p (valuesO p d) :=
  ⟨⟨_, e, rfl, rfl⟩, ⟨_, e⟩, fun _ _ x k => let ⟨o, ho, r⟩ := x; ⟨o, k o ho, r⟩⟩
section
variable {X : Cx}
def rValuesK : V → List V → Hp → VK → Prop := fun x xs H Q => ∃ (a : Addr) (kvs : List (Key × V)), x = .ref a ∧ xs = [] ∧ H a = some (.dK kvs) ∧ ∀ p, H p = none → Q (.ref p) (upd H p (valuesO p a))
theorem mt_valuesK : MtR X "dict.values" rValuesK := by
  intro pins s σ H x xs v us Q I rx rxs h
  obtain ⟨a, kvs, rfl, rfl, ha, q⟩ := h
  cases rx
  cases rxs
  obtain ⟨_, lo, vs, _, hd⟩ := dk_of I.hok ha
  refine call_meetsIn F.slot_dict_values hd.typeIs F.entry_dict_values (F.args_dict_values_1 _) (meets_dict_values (mixKind X.prog X.w) a lo) ⟨⟨vs, hd⟩, ?_⟩
  exact ⟨.ref s.heap.objs.size, upd H s.heap.objs.size (valuesO s.heap.objs.size a), I.laid (t' := s.toks) (fun b u e => Heap.get?_push_of_some _ e) (Nat.le_refl _) (valuesO_ok (Heap.get?_push_size _ rfl)), rfl, q _ (I.hok.fresh (Nat.le_refl _))⟩
def rListV : List V → Hp → VK → Prop := fun vs H Q => ∃ (p a : Addr) (kvs : List (Key × V)), vs = [.ref p] ∧ H p = some (valuesO p a) ∧ H a = some (.dK kvs) ∧ ∀ q, H q = none → Q (.ref q) (upd H q (.lst (kvs.map (·.2))))
theorem cr_listV (hc : X.calm = true) : CallR X (.type "list") rListV := by
  intro pins s σ H xs us Q I r h
  obtain ⟨p, a, kvs, rfl, hp, ha, q⟩ := h
  obtain rfl := Vals.ref1 r
  have view : s.heap.IsValuesView p a := (show ObjOk X.prog X.w H s.heap p (valuesO p a) from I.hok p _ hp).1
  obtain ⟨z, lo, vs, rk, hd⟩ := dk_of I.hok ha
  obtain ⟨ep, hat⟩ := hd.dictAt
  have hl : kvs.length = vs.length := Paired.length rk
  refine PySem.W.kdl_call (PySem.W.kdl_values (knd := mixKind X.prog X.w) (kvs := vs) (ep := ep)) (I.ok.hd hc) ⟨view, hat⟩ (by rw [← hl]; exact z) fun h' tk acc c hkeep hS hacc => ?_
  refine ⟨.ref s.heap.objs.size, upd H s.heap.objs.size (.lst (kvs.map (·.2))), I.laid hkeep (Nat.le_refl _) (show ObjOk X.prog X.w _ _ _ (.lst (kvs.map (·.2))) from ⟨by rw [List.length_map]; exact z, acc.toList, c, ?_, by rw [Array.toArray_toList]; exact hS⟩), rfl, q _ (I.hok.fresh (Nat.le_refl _))⟩
  have el : acc.toList.length = acc.size := by simp
  refine L2.vals_of_at (by rw [List.length_map, el, hacc.1, hl]) fun j x u h1 h2 => ?_
  obtain ⟨k, hk⟩ := hacc.2 j u (by rw [← Array.getElem?_toList]; exact h2)
  obtain ⟨e0, hb0, pe⟩ := DX.pget rk hk
  rw [List.getElem?_map, hb0] at h1
  obtain rfl := Option.some.inj h1
  exact pe.2
end
/-- a set is no code object -/
theorem setO_ne {w : World} {p : Addr} {S : Int → Bool} {n : Nat} : (∀ ps, SetO w p S n ≠ .tbl ps) ∧ ∀ q, SetO w p S n ≠ LamX.CodeO p q := by
  refine ⟨fun ps z => (by unfold SetO at z; cases z), fun q z => ?_⟩
  unfold SetO LamX.CodeO at z
  injection z with z
  let oc : Obj := { cls := .none, data := .fields #[.none, .str q 0] }
  let h : Heap := { objs := Array.replicate (p + 1) oc }
  have hp : h.get? p = some oc := Heap.get?_some_iff.mpr ⟨by
    show (Array.replicate (p + 1) oc)[p]? = some oc
    rw [Array.getElem?_replicate, if_pos (Nat.lt_succ_self p)], rfl⟩
  have y := congrFun z h
  have x : SetR w h p S n := by rw [y]; exact ⟨oc, _, 0, hp, rfl, rfl⟩
  have ⟨o, es, ep, t, ho, _, hd, _⟩ := x
  rw [hp] at ho
  obtain rfl := Option.some.inj ho
  cases hd
end L2
namespace PL
open PySem PySem.Spec PyProof.Rows L2 SrtG
variable [Nm]
section
variable {K : PySem.W.Frag} {ρ : Rho} {I J L : Asn} {ta te : TE} {tr tl : TA} {P : Program} {w : World}
theorem e_listVals {kvs : List (Key × PyData)} (ha : E K ta ρ I (.k kvs) J) : E K (tCB rListV (tCons (tBM0 K "dict" rValuesK ta) tNil)) ρ I (.d (.list (kvs.map (·.2)))) J := fun G H σ gh en io Q q => by
  refine ha G H σ gh en io _ fun v G1 H1 g1 gh1 j1 dv => ?_
  obtain ⟨a, vs, rfl, ha1, kv⟩ := dv
  have hH : H1 a = some (.dK vs) := gh1 _ _ ha1
  refine ⟨.inr (.inr (.inl ⟨rfl, .inl ⟨vs, hH⟩⟩)), a, vs, rfl, rfl, hH, fun p hp => ?_⟩
  have st0 := Stp.newM (o := valuesO p a) gh1 hp
  refine ⟨p, a, vs, rfl, upd_same, by rw [upd_ne (fun z => by rw [z, hp] at hH; cases hH)]; exact hH, fun l hl => ?_⟩
  have st1 := Stp.new (o := HO.lst (vs.map (·.2))) st0.gh hl
  have st := st0.trans st1
  exact q _ _ _ (g1.trans st.gg) st.gh (Asn.pure_st st j1) (.lst (.inl (.inl upd_same)) (dp_monos st.gg _ _ kv.2))
abbrev tupI (ns : List Int) : PyData := .tuple (ns.map .int)
theorem tups_of {G : Hp} : ∀ {xs : List V} {kss : List (List Int)}, DpAll K G xs (kss.map tupI) → ∃ ks : List (Addr × List Int), xs = ks.map (fun p => V.ref p.1) ∧ ks.map (·.2) = kss ∧ ∀ p ∈ ks, SqT K G p.1 (p.2.map V.int)
  | [], [], _ => ⟨[], rfl, rfl, fun p hp => by cases hp⟩
  | x :: xs, ns :: kss, .cons a b => by
    obtain ⟨ks, e1, e2, h⟩ := tups_of (xs := xs) (kss := kss) b
    cases a with
    | tup s r =>
      refine ⟨(_, ns) :: ks, by rw [e1]; rfl, by rw [List.map_cons, e2], fun p hp => ?_⟩
      rcases List.mem_cons.mp hp with rfl | hp
      · rw [← dpa_intsV ns _ r]
        exact s
      · exact h p hp
/-- sorted(set(xs)), xs a list of tuples of whole numbers, told by their first numbers -/
theorem e_setSortH {kss ess : List (List Int)} (hr : A K tl ρ I [.d (.list (kss.map tupI))] J) (few : kss.length < 64) (ne : ∀ k ∈ kss, k ≠ []) (tell : ∀ a ∈ kss, ∀ b ∈ kss, a.headD 0 = b.headD 0 → a = b) (mem : ∀ k, k ∈ ess ↔ k ∈ kss) (up : ess.Pairwise fun a b => a.headD 0 < b.headD 0) :
    E K (tCB (rSortSH K P w) (tCons (tCB (rSetOfT K P w) tl) tNil)) ρ I (.l (ess.map tupI)) J := fun G H σ gh en io Q q => by
  refine hr G H σ gh en io _ fun vs G1 H1 g1 gh1 j1 dv => ?_
  obtain ⟨v, rfl, dw⟩ := dva1 dv
  cases dw with
  | lst s r =>
    obtain ⟨ks, rfl, rfl, hk⟩ := tups_of r
    refine ⟨_, ks, rfl, gh1.seq s, fun p hp => same_t gh1 (hk p hp), by rw [List.length_map] at few; exact few, fun a L ha sub all => ?_⟩
    have st0 := Stp.newM (o := SetTO P w a L) gh1 ha
    have inK : ∀ p ∈ L, p.2 ∈ ks.map (·.2) := fun p hp => List.mem_map.mpr ⟨p, sub p hp, rfl⟩
    refine ⟨a, L, rfl, upd_same, fun p hp => same_t (gh1.trans (same_new ha)) (hk p (sub p hp)), fun p hp => ne _ (inK p hp), fun nd => ?_, fun M p pm nd lt pw hp => ?_⟩
    · have nd' : L.Nodup := nodup_of_map nd
      refine List.pairwise_map.mpr (List.Pairwise.imp_of_mem (fun {x y} hx hy hne e => ?_) (List.pairwise_map.mp nd))
      exact hne (tell _ (inK x hx) _ (inK y hy) e)
    · have st1 := Stp.new (o := HO.lst (M.map fun q => V.ref q.1)) st0.gh hp
      have st := st0.trans st1
      have e : M.map (·.2) = ess := by
        have n2 : ess.Nodup := up.imp fun h z => by rw [z] at h; exact absurd h (Int.lt_irrefl _)
        have perm : (M.map (·.2)).Perm ess := (List.perm_ext_iff_of_nodup nd n2).mpr fun k => by
          rw [mem k]
          constructor
          · intro h
            obtain ⟨p, hp, rfl⟩ := List.mem_map.mp h
            exact inK p (pm.mem_iff.mp hp)
          · intro h
            obtain ⟨p, hp, rfl⟩ := List.mem_map.mp h
            obtain ⟨x, hx, e⟩ := List.mem_map.mp (all p hp)
            exact List.mem_map.mpr ⟨x, pm.mem_iff.mpr hx, e⟩
        refine List.Perm.eq_of_pairwise (le := fun a b : List Int => a.headD 0 ≤ b.headD 0) (fun a b ha hb h1 h2 => ?_) (List.pairwise_map.mpr pw) (up.imp fun h => Int.le_of_lt h) perm
        exact tell a ((mem a).mp (perm.mem_iff.mp ha)) b ((mem b).mp hb) (Int.le_antisymm h1 h2)
      have dat : DpAll K (upd G1 p (HO.lst (M.map fun q => V.ref q.1))) (M.map fun q => V.ref q.1) (ess.map tupI) := by
        rw [← e]
        have : ∀ {M : List (Addr × List Int)}, (∀ x ∈ M, x ∈ L) → DpAll K (upd G1 p (HO.lst (M.map fun q => V.ref q.1))) (M.map fun q => V.ref q.1) ((M.map (·.2)).map tupI) → True := fun _ _ => trivial
        clear this e
        have key : ∀ {N : List (Addr × List Int)} {G2 : Hp}, Same G1 G2 → (∀ x ∈ N, x ∈ L) → DpAll K G2 (N.map fun q => V.ref q.1) ((N.map (·.2)).map tupI) := by
          intro N
          induction N with
          | nil => exact fun _ _ => .nil
          | cons x N ih => exact fun g h => .cons (.tup (same_t g (hk x (sub x (h x List.mem_cons_self)))) (dpa_ints x.2)) (ih g fun y hy => h y (List.mem_cons_of_mem _ hy))
        exact key st1.gg fun x hx => pm.mem_iff.mp hx
      exact q _ _ _ (g1.trans st.gg) st.gh (Asn.pure_st st j1) ⟨p, _, rfl, upd_same, dat⟩
/-- a set of whole numbers that is being made -/
def setA (w : World) (D : Addr) (Pd : Int → Prop) (c : Nat) : Asn := ⟨(· = D), fun G H => G D = none ∧ ∃ S z, H D = some (SetO w D S z) ∧ z ≤ c ∧ ∀ k, S k = true ↔ Pd k,
  fun M G H G2 H2 n s ⟨g, S, z, h, r⟩ => ⟨s.fr D _ (n D rfl) h g, S, z, s.hh D _ (n D rfl) h, r⟩, fun G H a ⟨_, S, z, h, _⟩ (e : a = D) => ⟨SetO w D S z, by rw [e]; exact h⟩⟩
theorem e_sortSS {wi wj : TI} {g gj : TG} {vs us : List Nat} {n M : Nat} {xs : Nat → PyData} {m : Nat → Nat} {ys : Nat → Nat → PyData} {e : Nat → Nat → Int} {es : List Int} (hl : IW K wi ρ I n xs I) (hM : ∀ i, i < n → m i ≤ M) (few : n * M < 64)
    (he : ∀ i, i < n → ∃ ρ1, GW K g vs (xs i) (wipeR ρ vs) ρ1 ∧ (∀ I', (∀ G H, I'.ok G H → I.ok G H) → IW K wj ρ1 I' (m i) (ys i) I') ∧ ∀ j, j < m i → ∃ ρ2, GW K gj us (ys i j) (wipeR ρ1 us) ρ2 ∧ ∀ I', E K te ρ2 I' (.i (e i j)) I')
    (up : es.Pairwise (· < ·)) (mem : ∀ k, k ∈ es ↔ ∃ i j, i < n ∧ j < m i ∧ e i j = k) :
    E K (tCB (rSortedSet w) (tCons (tSs2 w wi g tYes wj gj tYes te vs us) tNil)) ρ I (.l (es.map .int)) I := fun G H σ gh en io Q q =>
  hl G H σ gh en io _ fun Ji G1 H1 g1' gh1 j1 wk D hD => by
    have gD : G1 D = none := gh1.free hD
    have nD : ∀ a, I.foot a → ¬ a = D := fun a fa z => by
      obtain ⟨o, ho⟩ := I.own G1 H1 a j1 fa
      rw [z, hD] at ho
      cases ho
    have st0 := Stp.newM (o := SetO w D (fun _ => false) 0) gh1 hD
    let Pd : Nat → Nat → Int → Prop := fun i j k => (∃ a b, a < i ∧ b < m a ∧ e a b = k) ∨ ∃ b, b < j ∧ e i b = k
    have pd0 : ∀ i k, Pd i 0 k ↔ ∃ a b, a < i ∧ b < m a ∧ e a b = k := fun i k => ⟨fun z => z.elim id fun ⟨b, lt, _⟩ => absurd lt (Nat.not_lt_zero _), .inl⟩
    have pdS : ∀ i k, Pd i (m i) k ↔ Pd (i + 1) 0 k := fun i k => by
      rw [pd0]
      constructor
      · rintro (⟨a, b, h1, h2, h3⟩ | ⟨b, h1, h2⟩)
        · exact ⟨a, b, by omega, h2, h3⟩
        · exact ⟨i, b, by omega, h1, h2⟩
      · rintro ⟨a, b, h1, h2, h3⟩
        by_cases c : a = i
        · subst c
          exact .inr ⟨b, h2, h3⟩
        · exact .inl ⟨a, b, by omega, h2, h3⟩
    have congr : ∀ {Pa Pb : Int → Prop} {c d : Nat} {G H : Hp}, (∀ k, Pa k ↔ Pb k) → c ≤ d → (setA w D Pa c).ok G H → (setA w D Pb d).ok G H := fun h1 h2 ⟨x1, S, z, x2, x3, x4⟩ => ⟨x1, S, z, x2, Nat.le_trans x3 h2, fun k => (x4 k).trans (h1 k)⟩
    refine ⟨fun i k H' => k = n - i ∧ i ≤ n ∧ ∃ G', Same G1 G' ∧ Same G' H' ∧ I.ok G' H' ∧ (setA w D (Pd i 0) (i * M)).ok G' H' ∧ Stp (· = D) G1 (upd H1 D (SetO w D (fun _ => false) 0)) G' H', ⟨n, rfl, Nat.zero_le _, G1, Same.refl _, st0.gh, Asn.pure_st st0 j1, ⟨gD, _, 0, upd_same, Nat.zero_le _, fun k => ?_⟩, Stp.refl st0.gh⟩, fun i k H' hw => ?_⟩
    · rw [pd0]
      exact ⟨fun z => (by cases z), fun ⟨a, _, lt, _⟩ => absurd lt (Nat.not_lt_zero _)⟩
    obtain ⟨rfl, hi, G', a1, a2, a3, a4, a5⟩ := hw
    by_cases c : i < n
    · obtain ⟨ρ1, hg, hi1, hin⟩ := he i c
      refine .inr ⟨wk.go i G' H' c a1 a2, fun H2 => ∃ G2, Same G1 G2 ∧ Same G2 H2 ∧ I.ok G2 H2 ∧ (setA w D (Pd (i + 1) 0) ((i + 1) * M)).ok G2 H2 ∧ Stp (· = D) G1 (upd H1 D (SetO w D (fun _ => false) 0)) G2 H2, fun H2 z => ⟨n - (i + 1), by omega, rfl, c, z⟩, fun v H2 y => ?_⟩
      obtain ⟨G2, st, dp⟩ := wk.yld i G' H' v H2 c a1 a2 y
      refine hg G2 H2 _ v _ st.gh (env_wipe (env_mono ((g1'.trans a1).trans st.gg) en) vs) dp fun σ' en' hw => ⟨hw.trans (wipe_wipe σ vs), ?_⟩
      have b4 := Asn.pure_st st a4
      have b3 := Asn.pure_st st a3
      have b5 := a5.trans (st.wide fun _ z => z.elim)
      have bb : Same G1 G2 := a1.trans st.gg
      refine hi1 (((setA w D (Pd i 0) (i * M)).and I).and (Asn.since (· = D) G1 (upd H1 D (SetO w D (fun _ => false) 0)))) (fun _ _ z => z.1.2) G2 H2 σ' st.gh en' ⟨⟨b4, b3⟩, b5⟩ _ fun J1 G4 H4 g4 gh4 j4 wk1 => ?_
      obtain ⟨⟨l4, i4⟩, s4⟩ := j4
      refine ⟨fun j k H' => k = m i - j ∧ j ≤ m i ∧ ∃ G', Same G4 G' ∧ Same G' H' ∧ I.ok G' H' ∧ (setA w D (Pd i j) (i * M + j)).ok G' H' ∧ Stp (· = D) G1 (upd H1 D (SetO w D (fun _ => false) 0)) G' H', ⟨m i, rfl, Nat.zero_le _, G4, Same.refl _, gh4, i4, l4, s4⟩, fun j k H' hw2 => ?_⟩
      obtain ⟨rfl, hj, G5, c1, c2, c3, c4, c5⟩ := hw2
      by_cases d : j < m i
      · obtain ⟨ρ2, hg2, hel⟩ := hin j d
        refine .inr ⟨wk1.go j G5 H' d c1 c2, fun H2 => ∃ G2, Same G4 G2 ∧ Same G2 H2 ∧ I.ok G2 H2 ∧ (setA w D (Pd i (j + 1)) (i * M + (j + 1))).ok G2 H2 ∧ Stp (· = D) G1 (upd H1 D (SetO w D (fun _ => false) 0)) G2 H2, fun H2 z => ⟨m i - (j + 1), by omega, rfl, d, z⟩, fun v2 H6 y2 => ?_⟩
        obtain ⟨G6, st6, dp6⟩ := wk1.yld j G5 H' v2 H6 d c1 c2 y2
        refine hg2 G6 H6 _ v2 _ st6.gh (env_wipe (env_mono ((g4.trans c1).trans st6.gg) en') us) dp6 fun σ3 en3 hw3 => ⟨hw3.trans (wipe_wipe σ' us), ?_⟩
        refine hel (((setA w D (Pd i j) (i * M + j)).and I).and (Asn.since (· = D) G1 (upd H1 D (SetO w D (fun _ => false) 0)))) G6 H6 σ3 st6.gh en3 ⟨⟨Asn.pure_st st6 c4, Asn.pure_st st6 c3⟩, c5.trans (st6.wide fun _ z => z.elim)⟩ _ fun z G3 H3 g3 gh3 j3 dy => ?_
        obtain rfl := dv_int dy
        obtain ⟨⟨⟨gq, S, zc, hq, le, hS⟩, i3⟩, st3⟩ := j3
        have h3 := hM i c
        have small : i * M + (j + 1) < 64 := by
          have : (i + 1) * M ≤ n * M := Nat.mul_le_mul_right _ c
          rw [Nat.succ_mul] at this
          omega
        have st4 := Stp.store (o := SetO w D (fun x => S x || decide (x = e i j)) (if S (e i j) = true then zc else zc + 1)) gh3 gq hq setO_ne
        refine ⟨_, S, zc, rfl, hq, by unfold scanBound; omega, G3, (c1.trans st6.gg).trans g3, st4.gh, I.st _ _ _ _ _ nD st4 i3, ⟨gq, _, _, upd_same, by split <;> omega, fun x => ?_⟩, st3.trans st4⟩
        rw [Bool.or_eq_true, hS, decide_eq_true_iff]
        constructor
        · rintro ((z | ⟨b, h1, h2⟩) | z)
          · exact .inl z
          · exact .inr ⟨b, by omega, h2⟩
          · exact .inr ⟨j, by omega, z.symm⟩
        · rintro (z | ⟨b, h1, h2⟩)
          · exact .inl (.inl z)
          · by_cases eb : b = j
            · subst eb
              exact .inr h2.symm
            · exact .inl (.inr ⟨b, by omega, h2⟩)
      · have ej : j = m i := by omega
        subst ej
        have h3 := hM i c
        exact .inl ⟨wk1.stop G5 H' c1 c2, G5, (bb.trans g4).trans c1, c2, c3, congr (pdS i) (by rw [Nat.succ_mul]; omega) c4, c5⟩
    · have ei : i = n := by omega
      subst ei
      obtain ⟨gq, S, zc, hq, le, hS⟩ := a4
      refine .inl ⟨wk.stop G' H' a1 a2, D, S, zc, rfl, hq, by omega, fun ns p asc hm hn hp => ?_⟩
      have st1 := Stp.new (o := HO.lst (ns.map V.int)) a2 hp
      have ens : ns = es := by
        have n1 : ns.Nodup := asc.imp fun h z => by rw [z] at h; exact absurd h (Int.lt_irrefl _)
        have n2 : es.Nodup := up.imp fun h z => by rw [z] at h; exact absurd h (Int.lt_irrefl _)
        refine List.Perm.eq_of_pairwise (le := fun a b : Int => a ≤ b) (fun a b _ _ h1 h2 => Int.le_antisymm h1 h2) (asc.imp fun h => Int.le_of_lt h) (up.imp fun h => Int.le_of_lt h) ((List.perm_ext_iff_of_nodup n1 n2).mpr fun k => ?_)
        rw [hm, hS, pd0, mem]
      subst ens
      exact q _ _ _ ((g1'.trans a1).trans st1.gg) st1.gh (Asn.pure_st st1 a3) ⟨p, _, rfl, upd_same, dpa_ints ns⟩
end
end PL
/-! zip of two lists; lists of one's own made by comprehensions; two items that change their places -/
namespace PL
open PySem PySem.Spec PyProof.Rows L2 FR GX PX RZ
end PL
namespace L2
open PySem PySem.Spec PyProof.Rows
end L2
namespace PL
open PySem PySem.Spec PyProof.Rows L2
variable [Nm]
section
variable {K : PySem.W.Frag} {ρ : Rho} {I J L N : Asn} {te ta tb t1 t2 : TE} {tr : TA} {us : TS} {k : Out} {xs ds : List PyData} {x y : PyData} {q : Addr}
/-- an expression whose value is a new list of one's own -/
def EO (K : PySem.W.Frag) (te : TE) (ρ : Rho) (I : Asn) (es : List PyData) (J : Asn) : Prop := ∀ G H σ, Same G H → EnvD K G σ ρ → I.ok G H → ∀ Q : VK, (∀ D G2 H2, Same G G2 → Same G2 H2 → (lJ K D es J).ok G2 H2 → ¬ J.foot D → Q (.ref D) H2) → te σ H Q
theorem s_asgO {i : Nat} {es : List PyData} (h : EO K te ρ I es J) (h2 : ∀ q, ¬ J.foot q → S K us (ρ.set i (some (.r q))) (lJ K q es J) k) : S K (tSeq (tAsg te (gName i)) us) ρ I k := fun G H σ D gh en io f => h G H σ gh en io _ fun q G1 H1 g1 gh1 j1 nf => h2 q nf G1 H1 _ D gh1 (env_set (d := .r q) rfl (env_mono g1 en)) j1 (f.mono g1)
theorem s_asgOne {i : Nat} {es : List PyData} {P : Rho → Asn → Prop} (h : EO K te ρ I es J) (h2 : ∀ q, ¬ J.foot q → P (ρ.set i (some (.r q))) (lJ K q es J)) : S K (tAsg te (gName i)) ρ I (.ne P) := fun G H σ D gh en io f => h G H σ gh en io _ fun q G1 H1 g1 gh1 j1 nf => f _ _ (h2 q nf) G1 H1 _ g1 gh1 (env_set (d := .r q) rfl (env_mono g1 en)) j1
end
end PL
namespace PL
open PySem PySem.Spec PyProof.Rows L2 FR
end PL
/-! dicts of one's own that a comprehension or a display makes; d.get(k) -/
namespace PL
open PySem PySem.Spec PyProof.Rows L2
variable [Nm]
section
variable {K : PySem.W.Frag} {ρ : Rho} {I J L N : Asn} {ta tb te tk : TE} {tr : TA} {x y : PyData} {us : TS} {k : Out}
/-- name = {k: e for ..}, changed later -/
theorem s_dcM {wi : TI} {g : TG} {vs : List Nat} {n : Nat} {xs : Nat → PyData} {ks : List Int} {es : List PyData} {at_ : Nat} (hl : IW K wi ρ I n xs I) (hk : ks.length = n) (hn : es.length = n) (hz : n ≤ 100000) (nd : ks.Nodup)
    (he : ∀ i m y, i < n → ks[i]? = some m → es[i]? = some y → ∃ ρ', GW K g vs (xs i) (wipeR ρ vs) ρ' ∧ (∀ I', E K tk ρ' I' (.i m) I') ∧ ∀ I', E K te ρ' I' (.d y) I')
    (h : ∀ q, ¬ I.foot q → S K us (ρ.set at_ (some (.r q))) (kJ K q (kvsOf ks es) I) k) : S K (tSeq (tAsg (tDc wi g tYes tk te vs) (gName at_)) us) ρ I k := fun G H σ Z gh en io f =>
  hl G H σ gh en io _ fun Ji G1 H1 g1 gh1 j1 wk D hD => by
    have gD : G1 D = none := gh1.free hD
    have nD : ∀ a, I.foot a → ¬ a = D := fun a fa z => by
      obtain ⟨o, ho⟩ := I.own G1 H1 a j1 fa
      rw [z, hD] at ho
      cases ho
    have st0 := Stp.newM (o := HO.dK []) gh1 hD
    refine ⟨fun i m H' => m = n - i ∧ i ≤ n ∧ ∃ G', Same G1 G' ∧ Same G' H' ∧ I.ok G' H' ∧ (kA K D (kvsOf (ks.take i) (es.take i))).ok G' H' ∧ Stp (· = D) G1 (upd H1 D (.dK [])) G' H', ⟨n, rfl, Nat.zero_le _, G1, Same.refl _, st0.gh, Asn.pure_st st0 j1, ⟨gD, [], upd_same, rfl, .nil⟩, Stp.refl st0.gh⟩, fun i m H' hw => ?_⟩
    obtain ⟨rfl, hi, G', a1, a2, a3, a4, a5⟩ := hw
    by_cases c : i < n
    · have h1 : ks[i]? = some (ks[i]'(by omega)) := List.getElem?_eq_getElem (by omega)
      have h2 : es[i]? = some (es[i]'(by omega)) := List.getElem?_eq_getElem (by omega)
      obtain ⟨ρ', hg, hky, hel⟩ := he i _ _ c h1 h2
      refine .inr ⟨wk.go i G' H' c a1 a2, fun H2 => ∃ G2, Same G1 G2 ∧ Same G2 H2 ∧ I.ok G2 H2 ∧ (kA K D (kvsOf (ks.take (i + 1)) (es.take (i + 1)))).ok G2 H2 ∧ Stp (· = D) G1 (upd H1 D (.dK [])) G2 H2, fun H2 z => ⟨n - (i + 1), by omega, rfl, c, z⟩, fun v H2 y => ?_⟩
      obtain ⟨G2, st, dp⟩ := wk.yld i G' H' v H2 c a1 a2 y
      refine hg G2 H2 _ v _ st.gh (env_wipe (env_mono ((g1.trans a1).trans st.gg) en) vs) dp fun σ' en' hw => ⟨hw.trans (wipe_wipe σ vs), ?_⟩
      refine (show ∀ {F : Bool → Hp → Prop}, F true H2 → tYes σ' H2 F from fun h => h) ?_
      dsimp only
      rw [if_pos rfl]
      refine hky (((kA K D (kvsOf (ks.take i) (es.take i))).and I).and (Asn.since (· = D) G1 (upd H1 D (.dK [])))) G2 H2 _ st.gh en' ⟨⟨Asn.pure_st st a4, Asn.pure_st st a3⟩, a5.trans (st.wide fun _ z => z.elim)⟩ _ fun kv G3 H3 g3 gh3 j3 dk => ?_
      refine hel _ G3 H3 _ gh3 (env_mono g3 en') j3 _ fun y G4 H4 g4 gh4 j4 dy => ?_
      obtain rfl := dv_int dk
      obtain ⟨⟨⟨gq, ws, hq, r2⟩, i3⟩, st3⟩ := j4
      have hlen := kv_len r2
      have nk : (.inl (ks[i]'(by omega)) : Key) ∉ (kvsOf (ks.take i) (es.take i)).map (·.1) := by
        rw [kvs_keys (by rw [List.length_take, List.length_take]; omega)]
        intro z
        obtain ⟨m, hm, e⟩ := List.mem_map.mp z
        cases e
        obtain ⟨j, hj, e⟩ := List.mem_take_iff_getElem.mp hm
        have hji : j < i := by omega
        exact absurd ((List.getElem_inj (h₀ := by omega) (h₁ := by omega) nd).mp e) (by omega)
      have st4 := Stp.store (o := HO.dK (putK ws (.inl (ks[i]'(by omega))) y)) gh4 gq hq
      refine ⟨ws, .inl (ks[i]'(by omega)), rfl, hq, ?_, G4, ((a1.trans st.gg).trans g3).trans g4, st4.gh, I.st _ _ _ _ _ nD st4 i3, ⟨gq, _, upd_same, ?_⟩, st3.trans st4⟩
      · rw [hlen]
        unfold kvsOf
        rw [List.length_map, List.length_zip, List.length_take, List.length_take]
        exact Nat.lt_of_le_of_lt (Nat.le_trans (Nat.min_le_left _ _) (Nat.min_le_left _ _)) (Nat.lt_of_le_of_lt (show i ≤ 100000 by omega) (by rw [sizeLine_eq]; decide))
      · rw [kvs_snoc h1 h2]
        exact (kv_new r2 dy nk).1
    · have ei : i = n := by omega
      subst ei
      have e1 : ks.take i = ks := List.take_of_length_le (by omega)
      have e2 : es.take i = es := List.take_of_length_le (by omega)
      rw [e1, e2] at a4
      exact .inl ⟨wk.stop G' H' a1 a2, h D (fun z => nD D z rfl) G' H' _ Z a2 (env_set (d := .r D) rfl (env_mono (g1.trans a1) en)) ⟨a4, a3⟩ (f.mono (g1.trans a1))⟩
/-- name = {k: e}, changed later -/
theorem s_disp1 {at_ : Nat} {m : Int} (hk : ∀ I', E K tk ρ I' (.i m) I') (he : ∀ I', E K te ρ I' (.d y) I') (h : ∀ q, ¬ I.foot q → S K us (ρ.set at_ (some (.r q))) (kJ K q [(.inl m, y)] I) k) : S K (tSeq (tAsg (tDisp [(tk, te)]) (gName at_)) us) ρ I k := fun G H σ Z gh en io f => fun p hp => by
  have s := Stp.newM (o := HO.dK []) gh hp
  have gp : G p = none := gh.free hp
  have j0 : (kJ K p [] I).ok G (upd H p (.dK [])) := ⟨⟨gp, [], upd_same, rfl, .nil⟩, Asn.pure_st s io⟩
  refine hk (kJ K p [] I) G _ σ s.gh en j0 _ fun v G1 H1 g1 gh1 j1 dv => ?_
  refine he (kJ K p [] I) G1 H1 σ gh1 (env_mono g1 en) j1 _ fun u G2 H2 g2 gh2 j2 du => ?_
  obtain rfl := dv_int dv
  obtain ⟨⟨gq, ws, hq, r⟩, i2⟩ := j2
  have hlen := kv_len r
  obtain rfl : ws = [] := List.eq_nil_of_length_eq_zero (by simpa using hlen)
  refine ⟨hq, [(.inl m, u)], rfl, (show 1 ≤ 15 by decide), ?_⟩
  have nf : ¬ I.foot p := fun z => by
    obtain ⟨o, ho⟩ := I.own G H p io z
    rw [ho] at hp
    cases hp
  have st := Stp.store (o := HO.dK [(.inl m, u)]) gh2 gq hq
  refine h p nf G2 _ _ Z st.gh (env_set (d := .r p) rfl (env_mono (g1.trans g2) en)) ⟨⟨gq, _, upd_same, rfl, .cons (show Dp K G2 u y from du) .nil⟩, I.st _ _ _ _ _ (fun a fa (z : a = p) => nf (z ▸ fa)) st i2⟩ (f.mono (g1.trans g2))
/-- d.get(n) -/
theorem e_kGet1 {kvs : List (Key × PyData)} {n : Int} {z : PyData} (ha : E K ta ρ I (.k kvs) J) (hb : E K tb ρ J (.i n) L) (h : (valD kvs (.inl n)).getD .none = z) : E K (tDGet1 ta tb) ρ I (.d z) L := fun G H σ gh en io Q q => ha G H σ gh en io _ fun v G1 H1 g1 gh1 j1 dv => by
  obtain ⟨a, vs, rfl, ha, kv⟩ := dv
  refine ⟨a, rfl, .inl ⟨vs, .of (gh1 _ _ ha)⟩, hb G1 H1 σ gh1 (env_mono g1 en) j1 _ fun w G2 H2 g2 gh2 j2 dw => ?_⟩
  obtain rfl := dv_int dw
  refine ⟨valV vs (.inl n), .inl ⟨vs, .inl n, .of ((g2.trans gh2) _ _ ha), rfl, rfl⟩, ?_⟩
  obtain ⟨h1, h2⟩ := kv_get (ky := .inl n) kv
  cases e : valD kvs (.inl n) with
  | none =>
    rw [e] at h
    obtain rfl : PyData.none = z := h
    rw [h1 e]
    exact q _ G2 H2 (g1.trans g2) gh2 j2 .non
  | some x =>
    rw [e] at h
    obtain rfl : x = z := h
    obtain ⟨u, hu, dp⟩ := h2 x e
    rw [hu]
    exact q _ G2 H2 (g1.trans g2) gh2 j2 (dp_mono g2 _ _ dp)
/-- n in d, n not in d, d one's own -/
theorem e_kInM {q : Addr} {kvs : List (Key × PyData)} {n : Int} (ha : E K ta ρ I (.i n) J) (hb : E K tb ρ J (.r q) N) (hN : ∀ G H, N.ok G H → (kA K q kvs).ok G H) : E K (tDIn ta tb) ρ I (.b (valD kvs (.inl n)).isSome) N := fun G H σ gh en io Q k => ha G H σ gh en io _ fun v G1 H1 g1 gh1 j1 dv => hb G1 H1 σ gh1 (env_mono g1 en) j1 _ fun w G2 H2 g2 gh2 j2 dw => by
  obtain rfl := dv_int dv
  obtain rfl : w = .ref q := dw
  obtain ⟨gq, vs, hq, r⟩ := hN G2 H2 j2
  refine ⟨q, valV vs (.inl n), rfl, .inl ⟨vs, .inl n, .of hq, rfl, rfl⟩, ?_⟩
  rw [kv_some r]
  exact k _ G2 H2 (g1.trans g2) gh2 j2 (.bl _)
theorem e_kNotM {q : Addr} {kvs : List (Key × PyData)} {n : Int} (ha : E K ta ρ I (.i n) J) (hb : E K tb ρ J (.r q) N) (hN : ∀ G H, N.ok G H → (kA K q kvs).ok G H) : E K (tDNotIn ta tb) ρ I (.b (!(valD kvs (.inl n)).isSome)) N := fun G H σ gh en io Q k => ha G H σ gh en io _ fun v G1 H1 g1 gh1 j1 dv => hb G1 H1 σ gh1 (env_mono g1 en) j1 _ fun w G2 H2 g2 gh2 j2 dw => by
  obtain rfl := dv_int dv
  obtain rfl : w = .ref q := dw
  obtain ⟨gq, vs, hq, r⟩ := hN G2 H2 j2
  refine ⟨q, valV vs (.inl n), rfl, .inl ⟨vs, .inl n, .of hq, rfl, rfl⟩, ?_⟩
  rw [kv_some r]
  exact k _ G2 H2 (g1.trans g2) gh2 j2 (.bl _)
/-- len(d), d one's own -/
theorem e_lenKM {q : Addr} {kvs : List (Key × PyData)} (hr : A K tr ρ I [.r q] J) (hN : ∀ G H, J.ok G H → (kA K q kvs).ok G H) : E K (tCB (fun xs H Q => ∃ a kvs, xs = [V.ref a] ∧ H a = some (.dK kvs) ∧ Q (.int kvs.length) H) tr) ρ I (.i (kvs.length : Nat)) J := fun G H σ gh en io Q k => hr G H σ gh en io _ fun vs G1 H1 g1 gh1 j1 dv => by
  obtain ⟨v, rfl, dw⟩ := dva1 dv
  obtain rfl : v = .ref q := dw
  obtain ⟨gq, ws, hq, r⟩ := hN G1 H1 j1
  refine ⟨q, ws, rfl, hq, ?_⟩
  rw [kv_len r]
  exact k _ G1 H1 g1 gh1 j1 (.int _)
/-! what a dict by names holds, told by functions -/
def kvF (ns : List Int) (f : Int → PyData) : List (Key × PyData) := ns.map fun n => (.inl n, f n)
theorem kvF_len {ns : List Int} {f : Int → PyData} : (kvF ns f).length = ns.length := List.length_map _
theorem kvF_get {ns : List Int} {f : Int → PyData} {n : Int} : valD (kvF ns f) (.inl n) = if n ∈ ns then some (f n) else none := by
  unfold kvF
  induction ns with
  | nil => rfl
  | cons m ns ih =>
    unfold valD at ih ⊢
    rw [List.map_cons]
    by_cases c : m = n
    · subst c
      rw [List.find?_cons_of_pos (by simp), if_pos List.mem_cons_self]
      rfl
    · rw [List.find?_cons_of_neg (by simpa using c), ih]
      by_cases d : n ∈ ns
      · rw [if_pos d, if_pos (List.mem_cons_of_mem _ d)]
      · rw [if_neg d, if_neg (fun z => (List.mem_cons.mp z).elim (fun w => c w.symm) d)]
theorem kvF_in {ns : List Int} {f : Int → PyData} {n : Int} : (valD (kvF ns f) (.inl n)).isSome = decide (n ∈ ns) := by
  rw [kvF_get]
  by_cases d : n ∈ ns
  · rw [if_pos d, decide_eq_true d]; rfl
  · rw [if_neg d, decide_eq_false d]; rfl
theorem kvF_at {ns : List Int} {f : Int → PyData} {n : Int} (h : n ∈ ns) : valD (kvF ns f) (.inl n) = some (f n) := by rw [kvF_get, if_pos h]
theorem kvF_put {ns : List Int} {f g : Int → PyData} {n : Int} {x : PyData} (h : n ∈ ns) (hg : ∀ m, g m = if m = n then x else f m) : putD (kvF ns f) (.inl n) x = kvF ns g := by
  unfold putD kvF
  have c : ((ns.map fun n => ((.inl n : Key), f n)).any fun kv => decide (kv.1 = .inl n)) = true := by
    rw [List.any_eq_true]
    exact ⟨(.inl n, f n), List.mem_map.mpr ⟨n, h, rfl⟩, by simp⟩
  rw [if_pos c, List.map_map]
  refine List.map_congr_left fun m _ => ?_
  show (if (Sum.inl m : Key) = .inl n then ((.inl m : Key), x) else (.inl m, f m)) = (.inl m, g m)
  rw [hg]
  by_cases e : m = n
  · rw [if_pos (by rw [e]), if_pos e]
  · rw [if_neg (fun z => e (by injection z)), if_neg e]
theorem kvF_new {ns : List Int} {f g : Int → PyData} {n : Int} {x : PyData} (h : n ∉ ns) (hg : ∀ m, g m = if m = n then x else f m) : putD (kvF ns f) (.inl n) x = kvF (ns ++ [n]) g := by
  unfold putD kvF
  have c : ¬ ((ns.map fun n => ((.inl n : Key), f n)).any fun kv => decide (kv.1 = .inl n)) = true := by
    rw [List.any_eq_true]
    rintro ⟨kv, hm, e⟩
    obtain ⟨m, hm2, rfl⟩ := List.mem_map.mp hm
    have e : (Sum.inl m : Key) = .inl n := by simpa using e
    exact h (by injection e with e; rw [← e]; exact hm2)
  rw [if_neg c, List.map_append]
  congr 1
  · refine List.map_congr_left fun m hm => ?_
    rw [hg, if_neg (fun z : m = n => h (z ▸ hm))]
  · show [((.inl n : Key), x)] = [(.inl n, g n)]
    rw [hg, if_pos rfl]
theorem kvF_of {ns : List Int} {f : Int → PyData} : kvsOf ns (ns.map f) = kvF ns f := by
  unfold kvsOf kvF
  induction ns with
  | nil => rfl
  | cons n ns ih =>
    rw [List.map_cons, List.map_cons, List.zip_cons_cons, List.map_cons, ih]
end
end PL
namespace PL
open PySem PySem.Spec PyProof.Rows L2 FR GX PX RZ
variable [Nm]
section
variable {K : PySem.W.Frag} {ρ : Rho} {I J : Asn} {tr : TA} {xs ys : List PyData}
/-- zip of two lists, the second one the shorter -/
theorem iw_zls (h : A K tr ρ I [.d (.list xs), .d (.list ys)] J) (hl : ys.length ≤ xs.length) : IW K (iZipA K tr) ρ I ys.length (fun i => .tuple [at0 xs i, at0 ys i]) J := fun G H σ gh en io R r => h G H σ gh en io _ fun us G1 H1 g1 gh1 j1 dvs => by
  match us, dvs with
  | [v1, v2], ⟨d1, d2, _⟩ =>
    cases d1 with
    | lst s1 r1 =>
      cases d2 with
      | lst s2 r2 =>
        rename_i a vs b ws
        have l1 := dpa_len r1
        have l2 := dpa_len r2
        refine ⟨_, _, _, _, rfl, .inl ⟨gh1.seq s1, gh1.seq s2, r _ G1 H1 g1 gh1 j1 ⟨fun i G2 H hi a1 a2 => ⟨vs, ws, vs[i]'(by omega), ws[i]'(by omega), (a1.trans a2).seq s1, (a1.trans a2).seq s2, List.getElem?_eq_getElem (by omega), List.getElem?_eq_getElem (by omega)⟩, fun G2 H a1 a2 => ⟨vs, ws, (a1.trans a2).seq s1, (a1.trans a2).seq s2, .inr (by omega)⟩, fun i G2 H v H' hi a1 a2 y => ?_⟩⟩⟩
        obtain ⟨q, x, y, rfl, nq, rfl, f1, f2⟩ := y
        obtain ⟨w1, h1, p1⟩ := dpa_get r1 (at0_get (show i < xs.length by omega))
        obtain ⟨w2, h2, p2⟩ := dpa_get r2 (at0_get hi)
        obtain rfl : x = w1 := Option.some.inj ((f1 vs ((a1.trans a2).seq s1)).symm.trans h1)
        obtain rfl : y = w2 := Option.some.inj ((f2 ws ((a1.trans a2).seq s2)).symm.trans h2)
        have st := Stp.new (o := .tup [x, y]) a2 nq
        have c1 := a1.trans st.gg
        exact ⟨_, st, .tup (.inl (.inl upd_same)) (.cons (dp_mono c1 _ _ p1) (.cons (dp_mono c1 _ _ p2) .nil))⟩
/-- x + es, x a list of one's own: a new one, the old one is let go -/
theorem eo_cat {i : Nat} {q : Addr} {tb : TE} {ds es : List PyData} (hi : ρ[i]? = some (some (.r q))) (hb : E K tb ρ (lJ K q ds J) (.l es) (lJ K q ds J)) (hl : ds.length + es.length ≤ 100000) : EO K (tOp rCat (tVar i) tb) ρ (lJ K q ds J) (ds ++ es) J := fun G H σ gh en io Q k => by
  obtain ⟨v, hv, rfl⟩ := env_get en hi
  refine ⟨.ref q, hv, hb G H σ gh en io _ fun w G1 H1 g1 gh1 j1 dw => ?_⟩
  obtain ⟨b, zs, rfl, hz, rz⟩ := dw
  obtain ⟨⟨gq, vs, hq, r⟩, jo⟩ := j1
  refine ⟨q, b, vs, zs, rfl, rfl, hq, gh1 _ _ hz, by rw [dpa_len r, dpa_len rz]; exact sz_of hl, fun p hp => ?_⟩
  have st := Stp.newM (o := HO.lst (vs ++ zs)) gh1 hp
  exact k p G1 _ (g1.trans st.gg) st.gh ⟨⟨gh1.free hp, _, upd_same, dpa_app r rz⟩, Asn.pure_st st jo⟩ fun z => by
    obtain ⟨o, ho⟩ := J.own G1 H1 p jo z
    rw [ho] at hp
    cases hp
/-- what is left over is forgotten -/
theorem s_neW {ts : TS} {P P2 : Rho → Asn → Prop} (h : S K ts ρ I (.ne P)) (hp : ∀ r L, P r L → ∃ r', Less r r' ∧ P2 r' L) : S K ts ρ I (.ne P2) := fun G H σ D gh en io f => h G H σ D gh en io fun r L p G2 H2 σ2 a b c d => by
  obtain ⟨r', l, q⟩ := hp r L p
  exact f r' L q G2 H2 σ2 a b (env_less l c) d
end
end PL
/-! Fractions as rational numbers. Plain Lean. -/
namespace FR
def vl (a : F) : Rat := (a.1 : Rat) / (a.2 : Rat)
theorem cpos {n : Int} (h : 0 < n) : (0 : Rat) < (n : Rat) := Rat.intCast_lt_intCast.mpr h
theorem div_eq {x y n d : Rat} (hy : y ≠ 0) (hd : d ≠ 0) (h : x * d = n * y) : x / y = n / d := by grind
theorem vl_nf {n d : Int} (h : 0 < d) : vl (nf n d) = (n : Rat) / (d : Rat) := by
  have p := cpos (nf_nrm (n := n) h).1
  have q := cpos h
  have z : (((nf n d).1 * d : Int) : Rat) = ((n * (nf n d).2 : Int) : Rat) := by rw [nf_mul1 h]
  rw [Rat.intCast_mul, Rat.intCast_mul] at z
  exact div_eq (by grind) (by grind) z
theorem vl_lf {n d : Int} (h : d ≠ 0) : vl (lf n d) = (n : Rat) / (d : Rat) := by
  unfold lf
  split
  · rw [vl_nf (by omega), Rat.intCast_sub, Rat.intCast_sub]
    have q : (d : Rat) ≠ 0 := fun z => h (Rat.intCast_inj.mp z)
    exact div_eq (by grind) q (by grind)
  · exact vl_nf (by omega)
theorem vl_plus {a b : F} (ha : Nrm a) (hb : Nrm b) : vl (plusM a b) = vl a + vl b := by
  rw [plus_eq ha hb, vl_nf (Int.mul_pos ha.1 hb.1), Rat.intCast_add, Rat.intCast_mul, Rat.intCast_mul, Rat.intCast_mul]
  have p := cpos ha.1
  have q := cpos hb.1
  unfold vl
  have p' : (a.2 : Rat) ≠ 0 := by grind
  have q' : (b.2 : Rat) ≠ 0 := by grind
  grind
theorem vl_minus {a b : F} (ha : Nrm a) (hb : Nrm b) : vl (minusM a b) = vl a - vl b := by
  rw [minus_eq ha hb, vl_nf (Int.mul_pos ha.1 hb.1), Rat.intCast_sub, Rat.intCast_mul, Rat.intCast_mul, Rat.intCast_mul]
  have p := cpos ha.1
  have q := cpos hb.1
  unfold vl
  have p' : (a.2 : Rat) ≠ 0 := by grind
  have q' : (b.2 : Rat) ≠ 0 := by grind
  grind
theorem div_lt_div {a b c d : Rat} (hb : 0 < b) (hd : 0 < d) : a / b < c / d ↔ a * d < c * b := by
  rw [Rat.div_lt_iff hb]
  have e : c / d * b = c * b / d := by grind
  rw [e, Rat.lt_div_iff hd]
theorem vl_lt {a b : F} (ha : 0 < a.2) (hb : 0 < b.2) : vl a < vl b ↔ a.1 * b.2 < b.1 * a.2 := by
  unfold vl
  rw [div_lt_div (cpos ha) (cpos hb), ← Rat.intCast_mul, ← Rat.intCast_mul, Rat.intCast_lt_intCast]
theorem less_vl {a b : F} (ha : 0 < a.2) (hb : 0 < b.2) : less a b = decide (vl a < vl b) := by
  unfold less
  by_cases c : a.1 * b.2 < b.1 * a.2
  · rw [decide_eq_true c, decide_eq_true ((vl_lt ha hb).mpr c)]
  · rw [decide_eq_false c, decide_eq_false (fun z => c ((vl_lt ha hb).mp z))]
theorem vl_inj {a b : F} (ha : Nrm a) (hb : Nrm b) (h : vl a = vl b) : a = b := by
  have h1 := (vl_lt (a := a) (b := b) ha.1 hb.1)
  have h2 := (vl_lt (a := b) (b := a) hb.1 ha.1)
  refine nrm_one ha hb ?_
  have z1 : ¬ a.1 * b.2 < b.1 * a.2 := fun z => by have := h1.mpr z; grind
  have z2 : ¬ b.1 * a.2 < a.1 * b.2 := fun z => by have := h2.mpr z; grind
  omega
theorem vl_zero : vl (0, 1) = 0 := by unfold vl; grind
theorem vl_neg {a : F} (ha : 0 < a.2) : vl a < 0 ↔ a.1 < 0 := by
  have := vl_lt (a := a) (b := (0, 1)) ha (by decide)
  rw [vl_zero] at this
  rw [this]
  show (a.1 * 1 < 0 * a.2) ↔ _
  omega
theorem nrm_zero : Nrm ((0, 1) : F) := ⟨by decide, by decide⟩
/-! ### the law's own sort -/
def ins (x : F) (out : List F) : List F :=
  let at_ := (out.filter fun y => less y x).length
  if at_ = out.length ∨ out[at_]? ≠ some x then out.take at_ ++ [x] ++ out.drop at_ else out
end FR
/-! Spans of times and the least and greatest of good moments. Plain Lean. -/
namespace FR
def more (a b : F) : Bool := less b a
/-- the greater, the lesser of two, as the program takes them -/
def mx (a b : F) : F := bestL more a [a, b]
/-! ### a ray against a box, axis by axis -/
structure Ax where
  l : F
  h : F
  o : F
  w : F
structure Ax.Ok (a : Ax) : Prop where
  l : Nrm a.l
  h : Nrm a.h
  o : Nrm a.o
  w : Nrm a.w
theorem div_le_pos {x t w : Rat} (hw : 0 < w) : x / w ≤ t ↔ x ≤ w * t := by
  have h := Rat.lt_div_iff (a := t) (b := x) hw
  constructor
  · intro z
    have : ¬ t * w < x := fun q => by have := h.mpr q; grind
    grind
  · intro z
    have : ¬ t < x / w := fun q => by have := h.mp q; grind
    grind
theorem le_div_pos {x t w : Rat} (hw : 0 < w) : t ≤ x / w ↔ w * t ≤ x := by
  have h := Rat.div_lt_iff (a := x) (b := w) (c := t) hw
  constructor
  · intro z
    have : ¬ x < t * w := fun q => by have := h.mpr q; grind
    grind
  · intro z
    have : ¬ x / w < t := fun q => by have := h.mp q; grind
    grind
end FR
/-! Two moving boxes: spans of times against the gaps between moments. Plain Lean. -/
namespace FR
/-- the middle of two moments -/
def mid (x y : F) : F := ltimes (lplus x y) (1, 2)
/-- the gaps between moments in which p holds -/
def inK (ms : List F) (p : F → Bool) : List Nat := (List.range (ms.length - 1)).filter fun k => p (mid (ms.getD k (0, 1)) (ms.getD (k + 1) (0, 1)))
/-! ### two boxes on an axis: low end, size and way of each -/
structure Sx where
  la : F
  sa : F
  va : F
  lb : F
  sb : F
  vb : F
structure Sx.Ok (a : Sx) : Prop where
  la : Nrm a.la
  sa : Nrm a.sa
  va : Nrm a.va
  lb : Nrm a.lb
  sb : Nrm a.sb
  vb : Nrm a.vb
def Sx.w (a : Sx) : F := minusM a.vb a.va
def Sx.lo (a : Sx) : F := minusM a.la (plusM a.lb a.sb)
def Sx.hi (a : Sx) : F := minusM (plusM a.la a.sa) a.lb
def lmx (x y : F) : F := if less x y then y else x
def gapM (pa sa pb sb : F) : F := lmx (lminus pb (lplus pa sa)) (lminus pa (lplus pb sb))
section
variable {a : Sx} (ha : a.Ok)
include ha
omit ha in
theorem gap_iff {pa sa pb sb : F} (h1 : Nrm pa) (h2 : Nrm sa) (h3 : Nrm pb) (h4 : Nrm sb) : (gapM pa sa pb sb).1 < 0 ↔ vl pb < vl pa + vl sa ∧ vl pa < vl pb + vl sb := by
  have n1 := plus_nrm h1 h2
  have n2 := plus_nrm h3 h4
  have n3 := minus_nrm h3 n1
  have n4 := minus_nrm h1 n2
  unfold gapM lmx
  rw [lplus_eq h1 h2, lplus_eq h3 h4, lminus_eq h3 n1, lminus_eq h1 n2, less_vl n3.1 n4.1]
  have e1 : vl (minusM pb (plusM pa sa)) = vl pb - (vl pa + vl sa) := by rw [vl_minus h3 n1, vl_plus h1 h2]
  have e2 : vl (minusM pa (plusM pb sb)) = vl pa - (vl pb + vl sb) := by rw [vl_minus h1 n2, vl_plus h3 h4]
  by_cases c : vl (minusM pb (plusM pa sa)) < vl (minusM pa (plusM pb sb))
  · rw [decide_eq_true c, if_pos rfl, ← vl_neg n4.1]
    constructor
    · intro z; constructor <;> grind
    · rintro ⟨z1, z2⟩; grind
  · rw [decide_eq_false c, if_neg (by decide), ← vl_neg n3.1]
    constructor
    · intro z; constructor <;> grind
    · rintro ⟨z1, z2⟩; grind
end
end FR
/-! Fractions whose denominators divide a number and whose values are bounded. Plain Lean. -/
namespace FR
/-- D times the value is an integer, the value lies from -B to B -/
structure Sm (D B : Nat) (a : F) : Prop where
  nrm : Nrm a
  int : ∃ z : Int, vl a * (D : Int) = z
  lo : -(B : Int) ≤ vl a
  hi : vl a ≤ (B : Int)
theorem den_dvd {a : F} {D z : Int} (h : Nrm a) (e : vl a * D = z) : a.2 ∣ D := by
  have p := cpos h.1
  have p' : (a.2 : Rat) ≠ 0 := by grind
  have e2 : ((a.1 * D : Int) : Rat) = ((z * a.2 : Int) : Rat) := by
    rw [Rat.intCast_mul, Rat.intCast_mul, ← e]
    unfold vl
    grind
  have e3 : a.1 * D = z * a.2 := Rat.intCast_inj.mp e2
  have d : a.2 ∣ a.1 * D := ⟨z, by rw [e3, Int.mul_comm]⟩
  have d2 := Int.natAbs_dvd_natAbs.mpr d
  rw [Int.natAbs_mul] at d2
  have c : Nat.Coprime a.2.natAbs a.1.natAbs := by
    have := h.2
    unfold Int.gcd at this
    rw [Nat.gcd_comm] at this
    exact this
  exact Int.natAbs_dvd_natAbs.mp (c.dvd_of_dvd_mul_left d2)
theorem Sm.dvd {D B : Nat} {a : F} (h : Sm D B a) : a.2 ∣ (D : Int) := by
  obtain ⟨z, e⟩ := h.int
  exact den_dvd h.nrm e
theorem num_le {a : F} {B : Nat} (h : Nrm a) (l : -(B : Int) ≤ vl a) (u : vl a ≤ (B : Int)) : a.1.natAbs ≤ B * a.2.natAbs := by
  have p := cpos h.1
  have e : (a.1 : Rat) = vl a * a.2 := by
    unfold vl
    grind
  have u1 : ((a.1 : Int) : Rat) ≤ (((B : Int) * a.2 : Int) : Rat) := by
    rw [Rat.intCast_mul, e]
    exact Rat.mul_le_mul_of_nonneg_right u (by grind)
  have l1 : ((-((B : Int) * a.2) : Int) : Rat) ≤ ((a.1 : Int) : Rat) := by
    rw [Rat.intCast_neg, Rat.intCast_mul, e]
    have := Rat.mul_le_mul_of_nonneg_right (c := (a.2 : Rat)) l (by grind)
    grind
  have u2 := Rat.intCast_le_intCast.mp u1
  have l2 := Rat.intCast_le_intCast.mp l1
  have z : ((B * a.2.natAbs : Nat) : Int) = (B : Int) * a.2 := by
    rw [Int.natCast_mul]
    congr 1
    have := h.1
    omega
  omega
theorem Sm.sz {D B k : Nat} {a : F} (h : Sm D B a) (hD : 0 < D) (hk : D < 2 ^ k) (hb : B * D < 2 ^ k) : Sz k a := by
  have d := Int.natAbs_dvd_natAbs.mpr h.dvd
  rw [Int.natAbs_natCast] at d
  have le := Nat.le_of_dvd hD d
  have n := num_le h.nrm h.lo h.hi
  exact ⟨Nat.lt_of_le_of_lt (Nat.le_trans n (Nat.mul_le_mul_left B le)) hb, Nat.lt_of_le_of_lt le hk⟩
theorem Sm.mono {D B E C : Nat} {a : F} (h : Sm D B a) (hd : D ∣ E) (hb : B ≤ C) : Sm E C a := by
  obtain ⟨k, rfl⟩ := hd
  obtain ⟨z, e⟩ := h.int
  have c : ((B : Int) : Rat) ≤ ((C : Int) : Rat) := Rat.intCast_le_intCast.mpr (by omega)
  have l := h.lo
  have u := h.hi
  refine ⟨h.nrm, ⟨z * k, ?_⟩, by grind, by grind⟩
  rw [Rat.intCast_mul, ← e, Int.natCast_mul, Rat.intCast_mul]
  grind
theorem Sm.up {D B C : Nat} {a : F} (h : Sm D B a) (hb : B ≤ C) : Sm D C a := h.mono (Nat.dvd_refl D) hb
theorem Sm.plus {D A B : Nat} {a b : F} (ha : Sm D A a) (hb : Sm D B b) : Sm D (A + B) (plusM a b) := by
  obtain ⟨x, e⟩ := ha.int
  obtain ⟨y, f⟩ := hb.int
  have l1 := ha.lo
  have u1 := ha.hi
  have l2 := hb.lo
  have u2 := hb.hi
  have v := vl_plus ha.nrm hb.nrm
  have c : (((A + B : Nat) : Int) : Rat) = ((A : Int) : Rat) + ((B : Int) : Rat) := by rw [Int.natCast_add, Rat.intCast_add]
  refine ⟨plus_nrm ha.nrm hb.nrm, ⟨x + y, ?_⟩, ?_, ?_⟩
  · rw [v, Rat.intCast_add, ← e, ← f]
    grind
  · rw [v, c]; grind
  · rw [v, c]; grind
theorem Sm.minus {D A B : Nat} {a b : F} (ha : Sm D A a) (hb : Sm D B b) : Sm D (A + B) (minusM a b) := by
  obtain ⟨x, e⟩ := ha.int
  obtain ⟨y, f⟩ := hb.int
  have l1 := ha.lo
  have u1 := ha.hi
  have l2 := hb.lo
  have u2 := hb.hi
  have v := vl_minus ha.nrm hb.nrm
  have c : (((A + B : Nat) : Int) : Rat) = ((A : Int) : Rat) + ((B : Int) : Rat) := by rw [Int.natCast_add, Rat.intCast_add]
  refine ⟨minus_nrm ha.nrm hb.nrm, ⟨x - y, ?_⟩, ?_, ?_⟩
  · rw [v, Rat.intCast_sub, ← e, ← f]
    grind
  · rw [v, c]; grind
  · rw [v, c]; grind
/-- told by its value -/
theorem Sm.of {D B : Nat} {a b : F} (h : Sm D B a) (hb : Nrm b) (e : vl b = vl a) : Sm D B b := by
  rw [vl_inj hb h.nrm e]
  exact h
theorem Sm.lf {D B : Nat} {x y : Int} (hy : 0 < y) (hd : y ∣ (D : Int)) (hb : x.natAbs ≤ B * y.natAbs) : Sm D B (lf x y) := by
  have v := vl_lf (n := x) (d := y) (by omega)
  have p := cpos hy
  have p' : (y : Rat) ≠ 0 := by grind
  obtain ⟨k, ek⟩ := hd
  refine ⟨lf_nrm (by omega), ⟨x * k, ?_⟩, ?_, ?_⟩
  · rw [v, ek, Rat.intCast_mul, Rat.intCast_mul]
    grind
  · rw [v]
    have z : ((-((B : Int) * y) : Int) : Rat) ≤ ((x : Int) : Rat) := Rat.intCast_le_intCast.mpr (by
      have : ((B * y.natAbs : Nat) : Int) = (B : Int) * y := by
        rw [Int.natCast_mul]
        congr 1
        omega
      omega)
    rw [Rat.intCast_neg, Rat.intCast_mul] at z
    refine (le_div_pos p).mpr ?_
    grind
  · rw [v]
    have z : ((x : Int) : Rat) ≤ (((B : Int) * y : Int) : Rat) := Rat.intCast_le_intCast.mpr (by
      have : ((B * y.natAbs : Nat) : Int) = (B : Int) * y := by
        rw [Int.natCast_mul]
        congr 1
        omega
      omega)
    rw [Rat.intCast_mul] at z
    refine (div_le_pos p).mpr ?_
    grind
end FR
/-! Limits on differences: rounds of lowering, the most that a difference can be. Plain Lean. -/
namespace PM
abbrev Ed := Int × Int × Int
/-- all limits hold -/
def Feas (es : List Ed) (y : Int → Int) : Prop := ∀ e ∈ es, y e.2.1 ≤ y e.1 + e.2.2
def put (p : Int → Int) (b v : Int) : Int → Int := fun x => if x = b then v else p x
theorem put_same {p : Int → Int} {b v : Int} : put p b v b = v := if_pos rfl
theorem put_ne {p : Int → Int} {b v x : Int} (h : x ≠ b) : put p b v x = p x := if_neg h
def viol (p : Int → Int) (e : Ed) : Bool := decide (p e.1 + e.2.2 < p e.2.1)
def rx (p : Int → Int) (e : Ed) : Int → Int := if viol p e = true then put p e.2.1 (p e.1 + e.2.2) else p
theorem rx_le (p : Int → Int) (e : Ed) (x : Int) : rx p e x ≤ p x := by
  unfold rx
  split
  · rename_i h
    have h := of_decide_eq_true h
    unfold put
    split
    · rename_i z
      subst z
      omega
    · omega
  · omega
theorem rx_at (p : Int → Int) (e : Ed) : rx p e e.2.1 ≤ p e.1 + e.2.2 := by
  unfold rx
  split
  · rw [put_same]; omega
  · rename_i h
    have h := of_decide_eq_false (Bool.eq_false_iff.mpr h)
    omega
theorem rx_low {p y : Int → Int} {e : Ed} (hy : y e.2.1 ≤ y e.1 + e.2.2) (h : ∀ x, y x ≤ p x) (x : Int) : y x ≤ rx p e x := by
  unfold rx
  split
  · unfold put
    split
    · rename_i z
      subst z
      have := h e.1
      omega
    · exact h x
  · exact h x
def rnd : List Ed → (Int → Int) → (Int → Int)
  | [], p => p
  | e :: es, p => rnd es (rx p e)
def calm : List Ed → (Int → Int) → Bool
  | [], _ => true
  | e :: es, p => !viol p e && calm es (rx p e)
theorem rnd_le : ∀ (es : List Ed) (p : Int → Int) (x : Int), rnd es p x ≤ p x
  | [], p, x => Int.le_refl _
  | e :: es, p, x => Int.le_trans (rnd_le es (rx p e) x) (rx_le p e x)
theorem rnd_at : ∀ (es : List Ed) (p : Int → Int) (e : Ed), e ∈ es → rnd es p e.2.1 ≤ p e.1 + e.2.2
  | f :: es, p, e, h => by
    rcases List.mem_cons.mp h with rfl | h
    · exact Int.le_trans (rnd_le es (rx p e) _) (rx_at p e)
    · have i := rnd_at es (rx p f) e h
      have j := rx_le p f e.1
      show rnd es (rx p f) _ ≤ _
      omega
theorem rnd_low : ∀ {es : List Ed} {p y : Int → Int}, Feas es y → (∀ x, y x ≤ p x) → ∀ x, y x ≤ rnd es p x
  | [], p, y, _, h => h
  | e :: es, p, y, hy, h => rnd_low (es := es) (fun f hf => hy f (List.mem_cons_of_mem _ hf)) (rx_low (hy e List.mem_cons_self) h)
theorem rx_no {p : Int → Int} {e : Ed} (h : viol p e = false) : rx p e = p := by unfold rx; rw [h]; rfl
theorem calm_iff : ∀ (es : List Ed) (p : Int → Int), calm es p = true ↔ Feas es p
  | [], p => ⟨fun _ e h => by simp at h, fun _ => rfl⟩
  | e :: es, p => by
    unfold calm
    rw [Bool.and_eq_true, Bool.not_eq_true']
    constructor
    · rintro ⟨h1, h2⟩
      rw [rx_no h1, calm_iff es p] at h2
      intro f hf
      rcases List.mem_cons.mp hf with rfl | hf
      · have := of_decide_eq_false h1
        omega
      · exact h2 f hf
    · intro h
      have h1 : viol p e = false := by
        have := h e List.mem_cons_self
        exact decide_eq_false (by omega)
      exact ⟨h1, by rw [rx_no h1, calm_iff es p]; exact fun f hf => h f (List.mem_cons_of_mem _ hf)⟩
/-- at most k rounds: whether one is calm -/
def can (es : List Ed) : Nat → (Int → Int) → Bool
  | 0, _ => false
  | k + 1, p => if calm es p = true then true else can es k (rnd es p)
theorem can_feas (es : List Ed) : ∀ (k : Nat) (p : Int → Int), can es k p = true → ∃ y, Feas es y
  | 0, p, h => by cases h
  | k + 1, p, h => by
    unfold can at h
    split at h
    · rename_i c
      exact ⟨p, (calm_iff es p).mp c⟩
    · exact can_feas es k _ h
/-! ### sums and counts over names -/
def sm (f : Int → Nat) : List Int → Nat
  | [] => 0
  | x :: xs => f x + sm f xs
theorem sm_le {f g : Int → Nat} : ∀ {xs : List Int}, (∀ x ∈ xs, f x ≤ g x) → sm f xs ≤ sm g xs
  | [], _ => Nat.le_refl _
  | x :: xs, h => by
    have i := sm_le (xs := xs) fun z hz => h z (List.mem_cons_of_mem _ hz)
    have := h x List.mem_cons_self
    show f x + sm f xs ≤ g x + sm g xs
    omega
theorem sm_lt {f g : Int → Nat} {b : Int} : ∀ {xs : List Int}, (∀ x ∈ xs, f x ≤ g x) → b ∈ xs → f b < g b → sm f xs < sm g xs
  | x :: xs, h, hb, hl => by
    show f x + sm f xs < g x + sm g xs
    have h0 := h x List.mem_cons_self
    rcases List.mem_cons.mp hb with rfl | hb
    · have i := sm_le (xs := xs) fun z hz => h z (List.mem_cons_of_mem _ hz)
      omega
    · have i := sm_lt (xs := xs) (fun z hz => h z (List.mem_cons_of_mem _ hz)) hb hl
      omega
theorem sm_len {f : Int → Nat} : ∀ {xs : List Int}, (∀ x ∈ xs, f x ≤ 1) → sm f xs ≤ xs.length
  | [], _ => Nat.le_refl _
  | x :: xs, h => by
    have i := sm_len (xs := xs) fun z hz => h z (List.mem_cons_of_mem _ hz)
    have := h x List.mem_cons_self
    show f x + sm f xs ≤ xs.length + 1
    omega
theorem sm_all {f : Int → Nat} : ∀ {xs : List Int}, (∀ x ∈ xs, f x ≤ 1) → xs.length ≤ sm f xs → ∀ x ∈ xs, f x = 1
  | x :: xs, h, hl, z, hz => by
    have i := sm_len (xs := xs) fun z hz => h z (List.mem_cons_of_mem _ hz)
    have h0 := h x List.mem_cons_self
    have hl : xs.length + 1 ≤ f x + sm f xs := hl
    rcases List.mem_cons.mp hz with rfl | hz
    · omega
    · exact sm_all (fun z hz => h z (List.mem_cons_of_mem _ hz)) (by omega) z hz
/-- the ends of all limits are names -/
def Ends (ns : List Int) (es : List Ed) : Prop := ∀ e ∈ es, e.1 ∈ ns ∧ e.2.1 ∈ ns
/-- the greatest that keeps all limits below p -/
theorem greatest {ns : List Int} {es : List Ed} {y0 : Int → Int} (hE : Ends ns es) (h0 : Feas es y0) : ∀ (n : Nat) (p : Int → Int), (∀ x, y0 x ≤ p x) → sm (fun x => (p x - y0 x).toNat) ns ≤ n → ∃ d, Feas es d ∧ (∀ x, d x ≤ p x) ∧ ∀ y, Feas es y → (∀ x, y x ≤ p x) → ∀ x, y x ≤ d x := by
  intro n
  induction n with
  | zero =>
    intro p hp hs
    by_cases c : calm es p = true
    · exact ⟨p, (calm_iff es p).mp c, fun x => Int.le_refl _, fun y _ hy => hy⟩
    · exfalso
      refine c ((calm_iff es p).mpr fun e he => ?_)
      have z : ∀ b ∈ ns, p b = y0 b := by
        intro b hb
        have : sm (fun x => (p x - y0 x).toNat) ns = 0 := by omega
        have h1 := hp b
        by_cases c : p b = y0 b
        · exact c
        · have := sm_lt (f := fun _ => 0) (g := fun x => (p x - y0 x).toNat) (b := b) (xs := ns) (fun _ _ => Nat.zero_le _) hb (by show 0 < (p b - y0 b).toNat; omega)
          omega
      rw [z _ (hE e he).1, z _ (hE e he).2]
      exact h0 e he
  | succ n ih =>
    intro p hp hs
    by_cases c : ∃ e ∈ es, viol p e = true
    · obtain ⟨e, he, hv⟩ := c
      have hv' := of_decide_eq_true hv
      have hp' := rx_low (h0 e he) hp
      obtain ⟨d, d1, d2, d3⟩ := ih (rx p e) hp' (by
        have := sm_lt (f := fun x => (rx p e x - y0 x).toNat) (g := fun x => (p x - y0 x).toNat) (b := e.2.1) (xs := ns) (fun x _ => by
          have := rx_le p e x
          show (rx p e x - y0 x).toNat ≤ (p x - y0 x).toNat
          omega) (hE e he).2 (by
          have a := rx_at p e
          have b := hp' e.2.1
          show (rx p e e.2.1 - y0 e.2.1).toNat < (p e.2.1 - y0 e.2.1).toNat
          omega)
        omega)
      exact ⟨d, d1, fun x => Int.le_trans (d2 x) (rx_le p e x), fun y hy hl => d3 y hy (rx_low (hy e he) hl)⟩
    · refine ⟨p, fun e he => ?_, fun x => Int.le_refl _, fun y _ hy => hy⟩
      have : viol p e = false := Bool.eq_false_iff.mpr fun z => c ⟨e, he, z⟩
      have := of_decide_eq_false this
      omega
/-- how many names have reached d -/
def got (d p : Int → Int) (ns : List Int) : Nat := sm (fun x => if p x = d x then 1 else 0) ns
theorem can_of {ns : List Int} {es : List Ed} {d p0 : Int → Int} (hE : Ends ns es) (hd : Feas es d) (hm : ∀ y, Feas es y → (∀ x, y x ≤ p0 x) → ∀ x, y x ≤ d x) : ∀ (k : Nat) (p : Int → Int), (∀ x, d x ≤ p x) → (∀ x, p x ≤ p0 x) → ns.length ≤ k + got d p ns → can es (k + 1) p = true := by
  have one : ∀ (q : Int → Int) (x : Int), (if q x = d x then 1 else 0 : Nat) ≤ 1 := fun q x => by split <;> omega
  have fin : ∀ p : Int → Int, ns.length ≤ got d p ns → calm es p = true := by
    intro p hl
    refine (calm_iff es p).mpr fun e he => ?_
    have z : ∀ x ∈ ns, p x = d x := fun x hx => by
      have := sm_all (f := fun x => if p x = d x then 1 else 0) (fun x _ => one p x) hl x hx
      split at this
      · assumption
      · cases this
    rw [z _ (hE e he).1, z _ (hE e he).2]
    exact hd e he
  intro k
  induction k with
  | zero =>
    intro p h1 h2 hl
    unfold can
    rw [fin p (by omega)]
    rfl
  | succ k ih =>
    intro p h1 h2 hl
    unfold can
    split
    · rfl
    · rename_i c
      have low : ∀ x, d x ≤ rnd es p x := rnd_low hd h1
      have le : ∀ x, rnd es p x ≤ p x := rnd_le es p
      refine ih (rnd es p) low (fun x => Int.le_trans (le x) (h2 x)) ?_
      have grow : got d p ns < got d (rnd es p) ns := by
        have mono : ∀ x ∈ ns, (if p x = d x then 1 else 0 : Nat) ≤ (if rnd es p x = d x then 1 else 0) := fun x _ => by
          by_cases z : p x = d x
          · rw [if_pos z, if_pos (by have := low x; have := le x; omega)]
            omega
          · rw [if_neg z]; omega
        rcases Classical.em (∃ x ∈ ns, p x ≠ d x ∧ rnd es p x = d x) with ⟨x, hx, z1, z2⟩ | no
        · exact sm_lt mono hx (by rw [if_neg z1, if_pos z2]; omega)
        · exfalso
          -- what is not reached could be one higher
          let y : Int → Int := fun x => if p x = d x ∨ x ∉ ns then d x else d x + 1
          have hy : Feas es y := by
            intro e he
            obtain ⟨ha, hb⟩ := hE e he
            have hde := hd e he
            show (if p e.2.1 = d e.2.1 ∨ e.2.1 ∉ ns then d e.2.1 else d e.2.1 + 1) ≤ (if p e.1 = d e.1 ∨ e.1 ∉ ns then d e.1 else d e.1 + 1) + e.2.2
            by_cases cb : p e.2.1 = d e.2.1
            · rw [if_pos (.inl cb)]
              split <;> omega
            · rw [if_neg (fun z => z.elim cb (fun w => w hb))]
              by_cases ca : p e.1 = d e.1
              · rw [if_pos (.inl ca)]
                have r := rnd_at es p e he
                have n1 : rnd es p e.2.1 ≠ d e.2.1 := fun w => no ⟨_, hb, cb, w⟩
                have n2 := low e.2.1
                rw [ca] at r
                omega
              · rw [if_neg (fun z => z.elim ca (fun w => w ha))]
                omega
          have hy0 : ∀ x, y x ≤ p0 x := by
            intro x
            show (if p x = d x ∨ x ∉ ns then d x else d x + 1) ≤ p0 x
            have a := h1 x
            have b := h2 x
            split
            · omega
            · rename_i z
              have : p x ≠ d x := fun w => z (.inl w)
              omega
          have hyd := hm y hy hy0
          refine c (fin p ?_)
          have all : ∀ x ∈ ns, p x = d x := fun x hx => by
            by_cases z : p x = d x
            · exact z
            · have := hyd x
              have e : y x = d x + 1 := if_neg fun w => w.elim z (fun v => v hx)
              omega
          have e : got d p ns = ns.length := by
            unfold got
            clear hl mono no hyd hy0 hy y low le c ih fin hE
            induction ns with
            | nil => rfl
            | cons x xs i =>
              show (if p x = d x then 1 else 0) + sm _ xs = xs.length + 1
              rw [if_pos (all x List.mem_cons_self), i fun z hz => all z (List.mem_cons_of_mem _ hz)]
              omega
          omega
      omega
theorem can_iff {ns : List Int} {es : List Ed} (hE : Ends ns es) {k : Nat} (hk : ns.length ≤ k) : can es (k + 1) (fun _ => 0) = true ↔ ∃ y, Feas es y := by
  constructor
  · exact can_feas es _ _
  · rintro ⟨y, hy⟩
    -- shifted down to 0
    obtain ⟨M, hM⟩ : ∃ M : Int, ∀ x ∈ ns, y x ≤ M := by
      clear hk hE
      induction ns with
      | nil => exact ⟨0, fun x h => by simp at h⟩
      | cons a as ih =>
        obtain ⟨M, h⟩ := ih
        refine ⟨max M (y a), fun x hx => ?_⟩
        rcases List.mem_cons.mp hx with rfl | hx
        · omega
        · have := h x hx
          omega
    let z : Int → Int := fun x => if x ∈ ns then y x - M else 0
    have hz : Feas es z := by
      intro e he
      show (if e.2.1 ∈ ns then y e.2.1 - M else 0) ≤ (if e.1 ∈ ns then y e.1 - M else 0) + e.2.2
      rw [if_pos (hE e he).1, if_pos (hE e he).2]
      have := hy e he
      omega
    have hz0 : ∀ x, z x ≤ 0 := by
      intro x
      show (if x ∈ ns then y x - M else 0) ≤ 0
      split
      · rename_i h
        have := hM x h
        omega
      · omega
    obtain ⟨d, d1, d2, d3⟩ := greatest hE hz _ (fun _ => 0) hz0 (Nat.le_refl _)
    exact can_of hE d1 d3 k (fun _ => 0) d2 (fun x => Int.le_refl _) (by omega)
/-! ### the most that a difference can be: one start, names found one after another -/
structure Src (ns : List Int) (es : List Ed) (st N0 : Int) (ks : List Int) (p : Int → Int) : Prop where
  hs : st ∈ ks
  sub : ∀ b ∈ ks, b ∈ ns
  nd : ks.Nodup
  p0 : p st = 0
  low : ∀ y, Feas es y → ∀ b ∈ ks, y b - y st ≤ p b
  hi : ∀ b ∈ ks, p b ≤ ks.length * N0
theorem src_start {ns : List Int} {es : List Ed} {st N0 : Int} {p : Int → Int} (h : st ∈ ns) (hN : 0 ≤ N0) (h0 : p st = 0) : Src ns es st N0 [st] p := by
  have one : ∀ {b : Int}, b ∈ [st] → b = st := fun hb => List.mem_singleton.mp hb
  refine ⟨List.mem_cons_self, fun b hb => by rw [one hb]; exact h, by simp, h0, fun y _ b hb => by rw [one hb, h0]; omega, fun b hb => by rw [one hb, h0]; simpa using hN⟩
theorem src_new {ns : List Int} {es : List Ed} {st N0 : Int} {ks : List Int} {p : Int → Int} (h : Src ns es st N0 ks p) {a b n : Int} (he : (a, b, n) ∈ es) (hb : b ∈ ns) (hn : n ≤ N0) (ha : a ∈ ks) (hk : b ∉ ks) (hN : 0 ≤ N0) : Src ns es st N0 (ks ++ [b]) (put p b (p a + n)) := by
  have hsb : st ≠ b := fun z => hk (z ▸ h.hs)
  have len : ((ks ++ [b]).length : Int) * N0 = ks.length * N0 + N0 := by
    rw [List.length_append, List.length_singleton, Int.natCast_add, Int.add_mul]
    simp
  refine ⟨List.mem_append_left _ h.hs, fun x hx => ?_, ?_, by rw [put_ne hsb]; exact h.p0, fun y hy x hx => ?_, fun x hx => ?_⟩
  · rcases List.mem_append.mp hx with hx | hx
    · exact h.sub x hx
    · rw [List.mem_singleton.mp hx]; exact hb
  · rw [List.nodup_append]
    refine ⟨h.nd, by simp, fun x hx z hz => ?_⟩
    rw [List.mem_singleton.mp hz]
    exact fun w => hk (w ▸ hx)
  · rcases List.mem_append.mp hx with hx | hx
    · rw [put_ne (fun z : x = b => hk (z ▸ hx))]
      exact h.low y hy x hx
    · obtain rfl := List.mem_singleton.mp hx
      rw [put_same]
      have h1 := hy _ he
      have h2 := h.low y hy a ha
      dsimp only at h1
      omega
  · rw [len]
    rcases List.mem_append.mp hx with hx | hx
    · rw [put_ne (fun z : x = b => hk (z ▸ hx))]
      have := h.hi x hx
      omega
    · obtain rfl := List.mem_singleton.mp hx
      rw [put_same]
      have := h.hi a ha
      omega
theorem src_low {ns : List Int} {es : List Ed} {st N0 : Int} {ks : List Int} {p y0 : Int → Int} (h : Src ns es st N0 ks p) (hy0 : Feas es y0) {a b n : Int} (he : (a, b, n) ∈ es) (ha : a ∈ ks) (hk : b ∈ ks) (hl : p a + n < p b) : Src ns es st N0 ks (put p b (p a + n)) := by
  have lw : ∀ y, Feas es y → y b - y st ≤ p a + n := fun y hy => by
    have h1 := hy _ he
    have h2 := h.low y hy a ha
    dsimp only at h1
    omega
  have hsb : st ≠ b := fun z => by
    subst z
    have := lw y0 hy0
    have := h.p0
    omega
  refine ⟨h.hs, h.sub, h.nd, by rw [put_ne hsb]; exact h.p0, fun y hy x hx => ?_, fun x hx => ?_⟩
  · by_cases z : x = b
    · subst z
      rw [put_same]
      exact lw y hy
    · rw [put_ne z]
      exact h.low y hy x hx
  · by_cases z : x = b
    · subst z
      rw [put_same]
      have := h.hi x hk
      omega
    · rw [put_ne z]
      exact h.hi x hx
/-- what is left: it falls whenever something is found -/
def left (ns : List Int) (y0 : Int → Int) (st : Int) (U : Nat) (ks : List Int) (p : Int → Int) : Nat := sm (fun b => if b ∈ ks then (p b - (y0 b - y0 st)).toNat else U + 1) ns
theorem left_new {ns : List Int} {es : List Ed} {st N0 : Int} {ks : List Int} {p y0 : Int → Int} {U : Nat} {a b n : Int} (hb : b ∈ ns) (hk : b ∉ ks) (hU : p a + n - (y0 b - y0 st) ≤ U) : left ns y0 st U (ks ++ [b]) (put p b (p a + n)) < left ns y0 st U ks p := by
  refine sm_lt (fun x hx => ?_) hb ?_
  · by_cases z : x = b
    · subst z
      rw [if_pos (by simp), if_neg hk, put_same]
      omega
    · rw [put_ne z]
      by_cases c : x ∈ ks
      · rw [if_pos (List.mem_append_left _ c), if_pos c]
        omega
      · rw [if_neg (by simp [c, z]), if_neg c]
        omega
  · rw [if_pos (by simp), if_neg hk, put_same]
    omega
theorem left_low {ns : List Int} {st : Int} {ks : List Int} {p y0 : Int → Int} {U : Nat} {v b : Int} (hb : b ∈ ns) (hk : b ∈ ks) (hl : v < p b) (hy : y0 b - y0 st ≤ v) : left ns y0 st U ks (put p b v) < left ns y0 st U ks p := by
  refine sm_lt (fun x hx => ?_) hb ?_
  · by_cases z : x = b
    · subst z
      rw [if_pos hk, if_pos hk, put_same]
      omega
    · rw [put_ne z]
      omega
  · rw [if_pos hk, if_pos hk, put_same]
    omega
/-- nothing is left to find -/
def Done (es : List Ed) (ks : List Int) (p : Int → Int) : Prop := ∀ e ∈ es, e.1 ∈ ks → e.2.1 ∈ ks ∧ p e.2.1 ≤ p e.1 + e.2.2
theorem done_ext {es : List Ed} {ks : List Int} {p y0 : Int → Int} (hy0 : Feas es y0) (hd : Done es ks p) : ∃ y, Feas es y ∧ ∀ b ∈ ks, y b = p b := by
  obtain ⟨L, hL0, hL⟩ : ∃ L : Int, 0 ≤ L ∧ ∀ e ∈ es, p e.2.1 - y0 e.1 - e.2.2 ≤ L := by
    clear hd hy0
    induction es with
    | nil => exact ⟨0, Int.le_refl _, fun e h => by simp at h⟩
    | cons f fs ih =>
      obtain ⟨L, h0, h⟩ := ih
      refine ⟨max L (p f.2.1 - y0 f.1 - f.2.2), by omega, fun e he => ?_⟩
      rcases List.mem_cons.mp he with rfl | he
      · omega
      · have := h e he
        omega
  refine ⟨fun x => if x ∈ ks then p x else y0 x + L, fun e he => ?_, fun b hb => if_pos hb⟩
  show (if e.2.1 ∈ ks then p e.2.1 else y0 e.2.1 + L) ≤ (if e.1 ∈ ks then p e.1 else y0 e.1 + L) + e.2.2
  by_cases ca : e.1 ∈ ks
  · obtain ⟨h1, h2⟩ := hd e he ca
    rw [if_pos ca, if_pos h1]
    exact h2
  · rw [if_neg ca]
    by_cases cb : e.2.1 ∈ ks
    · rw [if_pos cb]
      have := hL e he
      omega
    · rw [if_neg cb]
      have := hy0 e he
      omega
/-- each limit has one back -/
def Back (es : List Ed) : Prop := ∀ e ∈ es, ∃ m, (e.2.1, e.1, m) ∈ es
theorem done_free {es : List Ed} {ks : List Int} {p y0 : Int → Int} (hy0 : Feas es y0) (hd : Done es ks p) (hb : Back es) {a b : Int} (ha : a ∈ ks) (hn : b ∉ ks) (g : Int) : ∃ y, Feas es y ∧ y b - y a = g := by
  refine ⟨fun x => if x ∈ ks then y0 x else y0 x + (g - (y0 b - y0 a)), fun e he => ?_, ?_⟩
  · show (if e.2.1 ∈ ks then y0 e.2.1 else y0 e.2.1 + _) ≤ (if e.1 ∈ ks then y0 e.1 else y0 e.1 + _) + e.2.2
    have := hy0 e he
    obtain ⟨m, hm⟩ := hb e he
    by_cases ca : e.1 ∈ ks
    · rw [if_pos ca, if_pos (hd e he ca).1]
      exact this
    · rw [if_neg ca, if_neg fun cb => ca (hd _ hm cb).1]
      omega
  · show (if b ∈ ks then y0 b else y0 b + (g - (y0 b - y0 a))) - (if a ∈ ks then y0 a else _) = g
    rw [if_neg hn, if_pos ha]
    omega
/-! ### fixed ones: each to the next, or each to each -/
def chain : List (Int × Int) → List Ed
  | a :: b :: xs => (a.1, b.1, b.2 - a.2) :: (b.1, a.1, a.2 - b.2) :: chain (b :: xs)
  | _ => []
theorem chain_all {y : Int → Int} : ∀ {xs : List (Int × Int)} {a : Int × Int}, Feas (chain (a :: xs)) y → ∀ b ∈ xs, y b.1 - b.2 = y a.1 - a.2
  | x :: xs, a, h, b, hb => by
    have h1 := h (a.1, x.1, x.2 - a.2) (by unfold chain; simp)
    have h2 := h (x.1, a.1, a.2 - x.2) (by unfold chain; simp)
    have h3 : Feas (chain (x :: xs)) y := fun e he => h e (by unfold chain; simp [he])
    dsimp only at h1 h2
    rcases List.mem_cons.mp hb with rfl | hb
    · omega
    · have := chain_all h3 b hb
      omega
theorem chain_of {y : Int → Int} {k : Int} : ∀ {xs : List (Int × Int)}, (∀ b ∈ xs, y b.1 - b.2 = k) → Feas (chain xs) y
  | [], _, e, he => by simp [chain] at he
  | [a], _, e, he => by simp [chain] at he
  | a :: b :: xs, h, e, he => by
    have h1 := h a (by simp)
    have h2 := h b (by simp)
    unfold chain at he
    rcases List.mem_cons.mp he with rfl | he
    · dsimp only; omega
    rcases List.mem_cons.mp he with rfl | he
    · dsimp only; omega
    · exact chain_of (fun z hz => h z (List.mem_cons_of_mem _ hz)) e he
def each (xs : List (Int × Int)) : List Ed := xs.flatMap fun a => xs.map fun b => (a.1, b.1, b.2 - a.2)
theorem chain_each {y : Int → Int} {xs : List (Int × Int)} : Feas (chain xs) y ↔ Feas (each xs) y := by
  constructor
  · intro h e he
    unfold each at he
    rw [List.mem_flatMap] at he
    obtain ⟨a, ha, he⟩ := he
    obtain ⟨b, hb, rfl⟩ := List.mem_map.mp he
    cases xs with
    | nil => simp at ha
    | cons x xs =>
      have z : ∀ c ∈ x :: xs, y c.1 - c.2 = y x.1 - x.2 := fun c hc => by
        rcases List.mem_cons.mp hc with rfl | hc
        · rfl
        · exact chain_all h c hc
      have h1 := z a ha
      have h2 := z b hb
      dsimp only
      omega
  · intro h
    cases xs with
    | nil => intro e he; simp [chain] at he
    | cons x xs =>
      refine chain_of (k := y x.1 - x.2) fun b hb => ?_
      have h1 := h (x.1, b.1, b.2 - x.2) (List.mem_flatMap.mpr ⟨x, by simp, List.mem_map.mpr ⟨b, hb, rfl⟩⟩)
      have h2 := h (b.1, x.1, x.2 - b.2) (List.mem_flatMap.mpr ⟨b, hb, List.mem_map.mpr ⟨x, by simp, rfl⟩⟩)
      dsimp only at h1 h2
      omega
theorem feas_app {xs ys : List Ed} {y : Int → Int} : Feas (xs ++ ys) y ↔ Feas xs y ∧ Feas ys y :=
  ⟨fun h => ⟨fun e he => h e (List.mem_append_left _ he), fun e he => h e (List.mem_append_right _ he)⟩, fun h e he => (List.mem_append.mp he).elim (h.1 e) (h.2 e)⟩
/-- two limits that fix a difference -/
def fix (a b g : Int) : List Ed := [(a, b, g), (b, a, -g)]
theorem feas_fix {a b g : Int} {y : Int → Int} : Feas (fix a b g) y ↔ y b - y a = g := by
  unfold fix
  constructor
  · intro h
    have h1 := h (a, b, g) (by simp)
    have h2 := h (b, a, -g) (by simp)
    dsimp only at h1 h2
    omega
  · intro h e he
    rcases List.mem_cons.mp he with rfl | he
    · dsimp only; omega
    · obtain rfl := List.mem_singleton.mp he
      dsimp only; omega
/-! ### groups: joined one after another, or lowered in rounds -/
def mrg (c : Int → Int) (l : Int × Int) : Int → Int := fun x => if c x = c l.2 then c l.1 else c x
def cls (ls : List (Int × Int)) (c : Int → Int) : Int → Int := ls.foldl mrg c
theorem mrg_keep {c : Int → Int} {l : Int × Int} {x y : Int} (h : c x = c y) : mrg c l x = mrg c l y := by unfold mrg; rw [h]
theorem mrg_join {c : Int → Int} {l : Int × Int} : mrg c l l.1 = mrg c l l.2 := by
  unfold mrg
  rw [if_pos (rfl : c l.2 = c l.2)]
  split <;> rfl
theorem cls_keep : ∀ {ls : List (Int × Int)} {c : Int → Int} {x y : Int}, c x = c y → cls ls c x = cls ls c y
  | [], _, _, _, h => h
  | l :: ls, c, x, y, h => cls_keep (ls := ls) (mrg_keep h)
theorem cls_join : ∀ {ls : List (Int × Int)} {c : Int → Int} {l : Int × Int}, l ∈ ls → cls ls c l.1 = cls ls c l.2
  | f :: ls, c, l, h => by
    rcases List.mem_cons.mp h with rfl | h
    · exact cls_keep (ls := ls) mrg_join
    · exact cls_join (ls := ls) h
theorem cls_const {h : Int → Int} : ∀ {ls : List (Int × Int)} {c : Int → Int}, (∀ l ∈ ls, h l.1 = h l.2) → (∀ x y, c x = c y → h x = h y) → ∀ x y, cls ls c x = cls ls c y → h x = h y
  | [], _, _, hc, x, y, e => hc x y e
  | l :: ls, c, hl, hc, x, y, e => by
    refine cls_const (ls := ls) (c := mrg c l) (fun m hm => hl m (List.mem_cons_of_mem _ hm)) (fun u v w => ?_) x y e
    have hh := hl l List.mem_cons_self
    unfold mrg at w
    by_cases cu : c u = c l.2
    · by_cases cv : c v = c l.2
      · exact hc u v (by rw [cu, cv])
      · rw [if_pos cu, if_neg cv] at w
        rw [hc u _ cu, ← hh]
        exact hc _ v w
    · by_cases cv : c v = c l.2
      · rw [if_neg cu, if_pos cv] at w
        rw [hc v _ cv, ← hh]
        exact hc u _ w
      · rw [if_neg cu, if_neg cv] at w
        exact hc u v w
def lowG (g : Int → Int) (l : Int × Int) : Int → Int := put (put g l.1 (min (g l.1) (g l.2))) l.2 (min (g l.1) (g l.2))
def rndG (ls : List (Int × Int)) (g : Int → Int) : Int → Int := ls.foldl lowG g
def runG (ls : List (Int × Int)) : Nat → (Int → Int) → (Int → Int)
  | 0, g => g
  | k + 1, g => runG ls k (rndG ls g)
theorem lowG_le (g : Int → Int) (l : Int × Int) (x : Int) : lowG g l x ≤ g x := by
  unfold lowG put
  split
  · rename_i z; subst z; omega
  · split
    · rename_i z; subst z; omega
    · omega
theorem rndG_le : ∀ (ls : List (Int × Int)) (g : Int → Int) (x : Int), rndG ls g x ≤ g x
  | [], g, x => Int.le_refl _
  | l :: ls, g, x => Int.le_trans (rndG_le ls (lowG g l) x) (lowG_le g l x)
/-- a label stays within its group -/
theorem lowG_in {P : Int → Int → Prop} {g : Int → Int} {l : Int × Int} (h : ∀ x, P x (g x)) (h12 : ∀ v, P l.1 v ↔ P l.2 v) (x : Int) : P x (lowG g l x) := by
  have hm : P l.1 (min (g l.1) (g l.2)) := by
    by_cases c : g l.1 ≤ g l.2
    · rw [Int.min_eq_left c]; exact h _
    · rw [Int.min_eq_right (by omega)]; exact (h12 _).mpr (h _)
  unfold lowG put
  split
  · rename_i z; subst z; exact (h12 _).mp hm
  · split
    · rename_i z; subst z; exact hm
    · exact h x
theorem rndG_in {P : Int → Int → Prop} : ∀ {ls : List (Int × Int)} {g : Int → Int}, (∀ l ∈ ls, ∀ v, P l.1 v ↔ P l.2 v) → (∀ x, P x (g x)) → ∀ x, P x (rndG ls g x)
  | [], _, _, h => h
  | l :: ls, g, hl, h => rndG_in (ls := ls) (fun m hm => hl m (List.mem_cons_of_mem _ hm)) (lowG_in h (hl l List.mem_cons_self))
/-- one end at the least label of the group: so is the other -/
theorem rndG_pull {m : Int → Int} : ∀ {ls : List (Int × Int)} {g : Int → Int}, (∀ l ∈ ls, m l.1 = m l.2) → (∀ x, m x ≤ g x) → ∀ l ∈ ls, (g l.1 = m l.1 ∨ g l.2 = m l.2) → rndG ls g l.1 = m l.1 ∧ rndG ls g l.2 = m l.2
  | f :: ls, g, hm, hg, l, hl, h => by
    have hg' : ∀ x, m x ≤ lowG g f x := lowG_in (P := fun x v => m x ≤ v) hg fun v => by rw [hm f List.mem_cons_self]
    have stay : ∀ {x : Int} {ls : List (Int × Int)} {g : Int → Int}, (∀ l ∈ ls, m l.1 = m l.2) → (∀ x, m x ≤ g x) → g x = m x → rndG ls g x = m x := by
      intro x ls g h1 h2 h3
      have a := rndG_le ls g x
      have b := rndG_in (P := fun x v => m x ≤ v) (fun l hl v => by rw [h1 l hl]) h2 x
      omega
    rcases List.mem_cons.mp hl with rfl | hl
    · have e := hm l List.mem_cons_self
      have g1 := hg l.1
      have g2 := hg l.2
      have z1 : lowG g l l.2 = m l.2 := by
        unfold lowG
        rw [put_same]
        omega
      have z2 : lowG g l l.1 = m l.1 := by
        unfold lowG
        by_cases c : l.1 = l.2
        · rw [c, put_same]
          rw [c] at e
          rcases h with h | h
          · rw [c] at h; omega
          · omega
        · rw [put_ne c, put_same]
          omega
      exact ⟨stay (ls := ls) (fun k hk => hm k (List.mem_cons_of_mem _ hk)) hg' z2, stay (ls := ls) (fun k hk => hm k (List.mem_cons_of_mem _ hk)) hg' z1⟩
    · refine rndG_pull (fun k hk => hm k (List.mem_cons_of_mem _ hk)) hg' l hl (h.imp (fun z => ?_) fun z => ?_)
      · have a := lowG_le g f l.1
        have b := hg' l.1
        omega
      · have a := lowG_le g f l.2
        have b := hg' l.2
        omega
/-- after as many rounds as there are names, each label is the least of its group -/
theorem runG_least {ns : List Int} {ls : List (Int × Int)} {m c : Int → Int} (hc : ∀ h : Int → Int, (∀ l ∈ ls, h l.1 = h l.2) → ∀ x y, c x = c y → h x = h y) (hm : ∀ l ∈ ls, m l.1 = m l.2) (hl : ∀ l ∈ ls, l.1 ∈ ns ∧ l.2 ∈ ns) (m1 : ∀ x ∈ ns, c (m x) = c x) (m2 : ∀ x ∈ ns, m x ∈ ns) (m3 : ∀ x ∈ ns, m (m x) = m x) :
    ∀ (k : Nat) (g : Int → Int), (∀ x, m x ≤ g x) → (∀ x, g x ≤ x) → ns.length ≤ k + got m g ns → ∀ x ∈ ns, runG ls k g x = m x := by
  intro k
  induction k with
  | zero =>
    intro g _ _ hk x hx
    have := sm_all (f := fun x => if g x = m x then 1 else 0) (fun x _ => by split <;> omega) (by unfold got at hk; omega) x hx
    split at this
    · assumption
    · cases this
  | succ k ih =>
    intro g h1 h2 hk
    have low : ∀ x, m x ≤ rndG ls g x := rndG_in (P := fun x v => m x ≤ v) (fun l hl v => by rw [hm l hl]) h1
    have le := rndG_le ls g
    refine ih (rndG ls g) low (fun x => Int.le_trans (le x) (h2 x)) ?_
    have mono : ∀ x ∈ ns, (if g x = m x then 1 else 0 : Nat) ≤ (if rndG ls g x = m x then 1 else 0) := fun x _ => by
      by_cases z : g x = m x
      · rw [if_pos z, if_pos (by have := low x; have := le x; omega)]
        omega
      · rw [if_neg z]; omega
    rcases Classical.em (∃ x ∈ ns, g x ≠ m x ∧ rndG ls g x = m x) with ⟨x, hx, z1, z2⟩ | no
    · have grow : got m g ns < got m (rndG ls g) ns := sm_lt mono hx (by rw [if_neg z1, if_pos z2]; omega)
      omega
    · have all : ∀ x ∈ ns, g x = m x := fun x hx => by
        by_cases z : g x = m x
        · exact z
        · exfalso
          have key := hc (fun x => if g x = m x then 1 else 0) (fun l hl' => by
            obtain ⟨a1, a2⟩ := hl l hl'
            by_cases c1 : g l.1 = m l.1
            · have p := rndG_pull hm h1 l hl' (.inl c1)
              by_cases c2 : g l.2 = m l.2
              · rw [if_pos c1, if_pos c2]
              · exact absurd ⟨l.2, a2, c2, p.2⟩ no
            · by_cases c2 : g l.2 = m l.2
              · have p := rndG_pull hm h1 l hl' (.inr c2)
                exact absurd ⟨l.1, a1, c1, p.1⟩ no
              · rw [if_neg c1, if_neg c2]) (m x) x (m1 x hx)
          rw [if_neg z, if_pos (by
            have a := h1 (m x)
            have b := h2 (m x)
            have d := m3 x hx
            omega)] at key
          cases key
      have e : got m g ns = ns.length := by
        unfold got
        clear ih hk mono no low le h1 h2 m1 m2 m3 hl hm hc
        induction ns with
        | nil => rfl
        | cons x xs i =>
          show (if g x = m x then 1 else 0) + sm _ xs = xs.length + 1
          rw [if_pos (all x List.mem_cons_self), i fun z hz => all z (List.mem_cons_of_mem _ hz)]
          omega
      have := sm_le mono
      unfold got at e ⊢
      omega
/-! ### the groups as lists -/
def grp (ns : List Int) (c : Int → Int) (x : Int) : List Int := ns.filter fun y => decide (c y = c x)
theorem mem_grp {ns : List Int} {c : Int → Int} {x y : Int} : y ∈ grp ns c x ↔ y ∈ ns ∧ c y = c x := by
  unfold grp
  rw [List.mem_filter, decide_eq_true_iff]
theorem grp_same {ns : List Int} {c : Int → Int} {x y : Int} (h : c x = c y) : grp ns c x = grp ns c y := by
  unfold grp
  rw [h]
theorem grp_asc {ns : List Int} {c : Int → Int} {x : Int} (h : ns.Pairwise (· < ·)) : (grp ns c x).Pairwise (· < ·) := List.Pairwise.filter _ h
theorem head_le : ∀ {l : List Int}, l.Pairwise (· < ·) → ∀ y ∈ l, l.headD 0 ≤ y
  | x :: l, h, y, hy => by
    rw [List.pairwise_cons] at h
    rcases List.mem_cons.mp hy with rfl | hy
    · exact Int.le_refl _
    · exact Int.le_of_lt (h.1 y hy)
theorem head_mem : ∀ {l : List Int}, l ≠ [] → l.headD 0 ∈ l
  | x :: l, _ => List.mem_cons_self
/-- the least of a name's group -/
def lst (ns : List Int) (c : Int → Int) (x : Int) : Int := if x ∈ ns then (grp ns c x).headD 0 else x
section
variable {ns : List Int} {c : Int → Int} (hs : ns.Pairwise (· < ·))
include hs
theorem grp_ne {x : Int} (hx : x ∈ ns) : grp ns c x ≠ [] := fun z => by
  have : x ∈ grp ns c x := mem_grp.mpr ⟨hx, rfl⟩
  rw [z] at this
  cases this
theorem lst_mem {x : Int} (hx : x ∈ ns) : lst ns c x ∈ ns ∧ c (lst ns c x) = c x := by
  unfold lst
  rw [if_pos hx]
  exact mem_grp.mp (head_mem (grp_ne hs hx))
theorem lst_le {x y : Int} (hx : x ∈ ns) (hy : y ∈ ns) (e : c y = c x) : lst ns c x ≤ y := by
  unfold lst
  rw [if_pos hx]
  exact head_le (grp_asc hs) y (mem_grp.mpr ⟨hy, e⟩)
theorem lst_same {x y : Int} (hx : x ∈ ns) (hy : y ∈ ns) (e : c x = c y) : lst ns c x = lst ns c y := by
  unfold lst
  rw [if_pos hx, if_pos hy, grp_same e]
theorem lst_self {x : Int} (hx : x ∈ ns) : lst ns c (lst ns c x) = lst ns c x := lst_same hs (lst_mem hs hx).1 hx (lst_mem hs hx).2
theorem lst_id (x : Int) : lst ns c x ≤ x := by
  by_cases h : x ∈ ns
  · exact lst_le hs h h rfl
  · unfold lst
    rw [if_neg h]
    exact Int.le_refl _
/-- the groups, each by its least -/
theorem grp_head {x : Int} (hx : x ∈ ns) (e : lst ns c x = x) : (grp ns c x).headD 0 = x := by
  unfold lst at e
  rw [if_pos hx] at e
  exact e
end
def grps (ns : List Int) (c : Int → Int) : List (List Int) := (ns.filter fun x => decide (lst ns c x = x)).map (grp ns c)
section
variable {ns : List Int} {c : Int → Int} (hs : ns.Pairwise (· < ·))
include hs
theorem grps_mem (k : List Int) : k ∈ grps ns c ↔ k ∈ ns.map (grp ns c) := by
  unfold grps
  constructor
  · intro h
    obtain ⟨x, hx, rfl⟩ := List.mem_map.mp h
    exact List.mem_map.mpr ⟨x, (List.mem_filter.mp hx).1, rfl⟩
  · intro h
    obtain ⟨x, hx, rfl⟩ := List.mem_map.mp h
    have m := lst_mem (c := c) hs hx
    refine List.mem_map.mpr ⟨lst ns c x, List.mem_filter.mpr ⟨m.1, decide_eq_true (lst_self hs hx)⟩, grp_same m.2⟩
theorem grps_up : (grps ns c).Pairwise fun a b => a.headD 0 < b.headD 0 := by
  unfold grps
  refine List.pairwise_map.mpr (List.Pairwise.imp_of_mem (fun {a b} ha hb h => ?_) (List.Pairwise.filter _ hs))
  obtain ⟨a1, a2⟩ := List.mem_filter.mp ha
  obtain ⟨b1, b2⟩ := List.mem_filter.mp hb
  rw [grp_head hs a1 (of_decide_eq_true a2), grp_head hs b1 (of_decide_eq_true b2)]
  exact h
theorem grps_tell (a : List Int) (ha : a ∈ ns.map (grp ns c)) (b : List Int) (hb : b ∈ ns.map (grp ns c)) (e : a.headD 0 = b.headD 0) : a = b := by
  obtain ⟨x, hx, rfl⟩ := List.mem_map.mp ha
  obtain ⟨y, hy, rfl⟩ := List.mem_map.mp hb
  have h1 := (mem_grp.mp (head_mem (grp_ne (c := c) hs hx))).2
  have h2 := (mem_grp.mp (head_mem (grp_ne (c := c) hs hy))).2
  rw [e] at h1
  exact grp_same (h1.symm.trans h2)
end
/-- the law's labels give the same groups -/
theorem labels {ns : List Int} {ls : List (Int × Int)} (hs : ns.Pairwise (· < ·)) (hl : ∀ l ∈ ls, l.1 ∈ ns ∧ l.2 ∈ ns) : ∀ x ∈ ns, runG ls ns.length id x = lst ns (cls ls id) x := by
  have hc : ∀ h : Int → Int, (∀ l ∈ ls, h l.1 = h l.2) → ∀ x y, cls ls id x = cls ls id y → h x = h y := fun h hh x y e => cls_const (c := id) hh (fun x y e => by rw [show x = y from e]) x y e
  refine runG_least (m := lst ns (cls ls id)) hc (fun l h => lst_same hs (hl l h).1 (hl l h).2 (cls_join h)) hl (fun x hx => (lst_mem hs hx).2) (fun x hx => (lst_mem hs hx).1) (fun x hx => lst_self hs hx) ns.length id (fun x => lst_id hs x) (fun x => Int.le_refl _) (by omega)
theorem runG_succ (ls : List (Int × Int)) : ∀ (k : Nat) (g : Int → Int), runG ls (k + 1) g = rndG ls (runG ls k g)
  | 0, _ => rfl
  | k + 1, g => runG_succ ls k (rndG ls g)
theorem labels_grps {ns : List Int} {ls : List (Int × Int)} (hs : ns.Pairwise (· < ·)) (hl : ∀ l ∈ ls, l.1 ∈ ns ∧ l.2 ∈ ns) {g : Int → Int} (hg : ∀ x ∈ ns, g x = lst ns (cls ls id) x) : (ns.filter fun x => decide (g x = x)).map (fun x => ns.filter fun y => decide (g y = x)) = grps ns (cls ls id) := by
  unfold grps
  have e1 : (ns.filter fun x => decide (g x = x)) = ns.filter fun x => decide (lst ns (cls ls id) x = x) := List.filter_congr fun x hx => by rw [hg x hx]
  rw [e1]
  refine List.map_congr_left fun x hx => ?_
  obtain ⟨h1, h2⟩ := List.mem_filter.mp hx
  have h2 := of_decide_eq_true h2
  unfold grp
  refine List.filter_congr fun y hy => ?_
  rw [hg y hy, decide_eq_decide]
  constructor
  · intro e
    have a := (lst_mem (c := cls ls id) hs hy).2
    rw [e] at a
    exact a.symm
  · intro e
    rw [lst_same hs hy h1 e, h2]
/-- joining two groups -/
theorem mrg_eq {c : Int → Int} {l : Int × Int} {x y : Int} : mrg c l y = mrg c l x ↔ if c x = c l.1 ∨ c x = c l.2 then c y = c l.1 ∨ c y = c l.2 else c y = c x := by
  unfold mrg
  by_cases a : c y = c l.2 <;> by_cases b : c x = c l.2
  · rw [if_pos a, if_pos b, if_pos (.inr b)]
    simp [a]
  · rw [if_pos a, if_neg b]
    by_cases d : c x = c l.1
    · rw [if_pos (.inl d)]
      simp [a, d]
    · rw [if_neg (fun z => z.elim d b)]
      exact ⟨fun e => absurd e.symm d, fun e => absurd (e.symm.trans a) b⟩
  · rw [if_neg a, if_pos b, if_pos (.inr b)]
    simp [a]
  · rw [if_neg a, if_neg b]
    by_cases d : c x = c l.1
    · rw [if_pos (.inl d), d]
      simp [a]
    · rw [if_neg (fun z => z.elim d b)]
theorem grp_mrg {ns : List Int} {c : Int → Int} {l : Int × Int} {x : Int} : grp ns (mrg c l) x = if c x = c l.1 ∨ c x = c l.2 then ns.filter (fun y => decide (c y = c l.1 ∨ c y = c l.2)) else grp ns c x := by
  unfold grp
  by_cases h : c x = c l.1 ∨ c x = c l.2
  · rw [if_pos h]
    refine List.filter_congr fun y _ => ?_
    rw [decide_eq_decide, mrg_eq, if_pos h]
  · rw [if_neg h]
    refine List.filter_congr fun y _ => ?_
    rw [decide_eq_decide, mrg_eq, if_neg h]
theorem calm_snoc : ∀ {es : List Ed} {e : Ed} {p : Int → Int}, calm (es ++ [e]) p = (calm es p && !viol (rnd es p) e)
  | [], e, p => by
    show (!viol p e && true) = (true && !viol p e)
    rw [Bool.and_true, Bool.true_and]
  | f :: es, e, p => by
    show (!viol p f && calm (es ++ [e]) (rx p f)) = (!viol p f && calm es (rx p f) && !viol (rnd (f :: es) p) e)
    rw [calm_snoc, Bool.and_assoc]
    rfl
theorem can_succ {es : List Ed} {k : Nat} {p : Int → Int} : can es (k + 1) p = if calm es p = true then true else can es k (rnd es p) := rfl
end PM
/-! a comprehension with a test, told as a new list -/
namespace PL
open PySem PySem.Spec PyProof.Rows L2
variable [Nm]
section
variable {K : PySem.W.Frag} {ρ : Rho} {I J L N : Asn} {ta tb tc te : TE} {tr : TA} {x y : PyData}
/-- [e for g in .. if t], told as a new list -/
theorem e_lcTWl {wi : TI} {g : TG} {tt : TT} {vs : List Nat} {n : Nat} {xs : Nat → PyData} {b : Nat → Bool} {e : Nat → PyData} (hl : IW K wi ρ I n xs I) (hz : n ≤ 100000)
    (he : ∀ i, i < n → ∃ ρ', GW K g vs (xs i) (wipeR ρ vs) ρ' ∧ (∀ I', T K tt ρ' I' (b i) I') ∧ (b i = true → ∀ I', E K te ρ' I' (.d (e i)) I')) : E K (tLc wi g tt te vs) ρ I (.l (rowK b e n)) I := fun G H σ gh en io Q q =>
  hl G H σ gh en io _ fun Ji G1 H1 g1 gh1 j1 wk D hD => by
    have gD : G1 D = none := gh1.free hD
    have nD : ∀ a, I.foot a → ¬ a = D := fun a fa z => by
      obtain ⟨o, ho⟩ := I.own G1 H1 a j1 fa
      rw [z, hD] at ho
      cases ho
    have st0 := Stp.newM (o := HO.lst []) gh1 hD
    refine ⟨fun i m H' => m = n - i ∧ i ≤ n ∧ ∃ G', Same G1 G' ∧ Same G' H' ∧ I.ok G' H' ∧ (lA K D (rowK b e i)).ok G' H' ∧ Stp (· = D) G1 (upd H1 D (.lst [])) G' H', ⟨n, rfl, Nat.zero_le _, G1, Same.refl _, st0.gh, Asn.pure_st st0 j1, ⟨gD, [], upd_same, .nil⟩, Stp.refl st0.gh⟩, fun i m H' hw => ?_⟩
    obtain ⟨rfl, hi, G', a1, a2, a3, a4, a5⟩ := hw
    by_cases c : i < n
    · obtain ⟨ρ', hg, ht, hel⟩ := he i c
      refine .inr ⟨wk.go i G' H' c a1 a2, fun H2 => ∃ G2, Same G1 G2 ∧ Same G2 H2 ∧ I.ok G2 H2 ∧ (lA K D (rowK b e (i + 1))).ok G2 H2 ∧ Stp (· = D) G1 (upd H1 D (.lst [])) G2 H2, fun H2 z => ⟨n - (i + 1), by omega, rfl, c, z⟩, fun v H2 y => ?_⟩
      obtain ⟨G2, st, dp⟩ := wk.yld i G' H' v H2 c a1 a2 y
      refine hg G2 H2 _ v _ st.gh (env_wipe (env_mono ((g1.trans a1).trans st.gg) en) vs) dp fun σ' en' hw => ⟨hw.trans (wipe_wipe σ vs), ?_⟩
      refine ht (((lA K D (rowK b e i)).and I).and (Asn.since (· = D) G1 (upd H1 D (.lst [])))) G2 H2 σ' st.gh en' ⟨⟨Asn.pure_st st a4, Asn.pure_st st a3⟩, a5.trans (st.wide fun _ z => z.elim)⟩ _ fun G7 H7 g7 gh7 j7 => ?_
      by_cases hb : b i = true
      · rw [if_pos hb]
        refine hel hb (((lA K D (rowK b e i)).and I).and (Asn.since (· = D) G1 (upd H1 D (.lst [])))) G7 H7 σ' gh7 (env_mono g7 en') j7 _ fun z G3 H3 g3 gh3 j3 dy => ?_
        obtain ⟨⟨⟨gq, ws, hq, r2⟩, i3⟩, st3⟩ := j3
        have st4 := Stp.store (o := HO.lst (ws ++ [z])) gh3 gq hq
        refine ⟨ws, hq, ?_, G3, ((a1.trans st.gg).trans g7).trans g3, st4.gh, I.st _ _ _ _ _ nD st4 i3, ⟨gq, _, upd_same, ?_⟩, st3.trans st4⟩
        · rw [dpa_len r2]
          have := rowK_len (b := b) (e := e) i
          rw [sizeLine_eq]
          omega
        · rw [rowK_s, if_pos hb]
          exact dpa_app r2 (.cons dy .nil)
      · rw [if_neg hb]
        obtain ⟨⟨l7, i7⟩, s7⟩ := j7
        refine ⟨G7, (a1.trans st.gg).trans g7, gh7, i7, ?_, s7⟩
        rw [rowK_s, if_neg hb, List.append_nil]
        exact l7
    · have ei : i = n := by omega
      subst ei
      obtain ⟨gq, ws, hq, r2⟩ := a4
      have st : Stp (· = D) G' H' (upd G' D (.lst ws)) H' := Stp.frz a2 gq hq
      exact .inl ⟨wk.stop G' H' a1 a2, q _ (upd G' D (.lst ws)) H' ((g1.trans a1).trans st.gg) st.gh (I.st _ _ _ _ _ nD st a3) ⟨D, ws, rfl, upd_same, dp_monos st.gg _ ws r2⟩⟩
end
end PL
set_option maxHeartbeats 1000000
/-! {e: f for a in s for b in t}, the keys being tuples -/
/-! {e: f for a in s for b in t}, the keys being tuples, over data -/
namespace PL
open PySem PySem.Spec PyProof.Rows L2
end PL
/-! objects of the program's own classes, over data -/
namespace PL
open PySem PySem.Spec PyProof.Rows L2
variable [Nm]
abbrev FS := List (Str × Dat)
/-- an object's fields as data -/
def FsAll (K : PySem.W.Frag) (G : Hp) (us : List (Str × V)) (fs : FS) : Prop := us.map (·.1) = fs.map (·.1) ∧ DvAll K G (us.map (·.2)) (fs.map (·.2))
section
variable {K : PySem.W.Frag} {G H G1 H1 G2 H2 H' : Hp} {ρ ρ1 : Rho} {I J L : Asn} {ta tb te : TE} {tr : TA} {d : Dat} {k : Out} {us : TS} {C a q : Addr} {fs : FS} {f m : Str}
theorem fs_mono {us : List (Str × V)} (s : Same G H) (h : FsAll K G us fs) : FsAll K H us fs := ⟨h.1, dva_mono s h.2⟩
/-! ### objects that stand -/
theorem e_min2 {i j : Int} (hr : A K tr ρ I [.i i, .i j] J) : E K (tCB (fun xs H Q => ∃ i j, xs = [.int i, .int j] ∧ Q (.int (if j < i then j else i)) H) tr) ρ I (.i (if j < i then j else i)) J :=
  e_cb hr fun G H vs gh jo h Q k => by
    obtain ⟨v, w, rfl, h1, h2⟩ := dva2 h
    obtain rfl := dv_int h1
    obtain rfl := dv_int h2
    exact ⟨i, j, rfl, k _ G H (Same.refl _) gh jo (.int _)⟩
/-! ### an object of one's own -/
def oA (K : PySem.W.Frag) (C q : Addr) (fs : FS) : Asn := ⟨(· = q), fun G H => G q = none ∧ ∃ dx us, H q = some (.ins C dx us) ∧ FsAll K G us fs, fun M G H G2 H2 n s ⟨g, dx, us, h, r⟩ => ⟨s.fr q _ (n q rfl) h g, dx, us, s.hh q _ (n q rfl) h, fs_mono s.gg r⟩, fun G H a ⟨_, dx, us, h, _⟩ (z : a = q) => ⟨.ins C dx us, by rw [z]; exact h⟩⟩
abbrev oJ (K : PySem.W.Frag) (C q : Addr) (fs : FS) (J : Asn) : Asn := (oA K C q fs).and J
instance {T : Tbs} [h : HasT T J] : HasT T (oJ K C q fs J) := ⟨fun G H z => h.get G H z.2⟩
/-! ### __init__ and C(..) -/
end
end PL
local macro_rules | `(tactic| walk_at "norm") => `(tactic| try simp only [PL.cxK, PL.cxHK, List.map_cons, List.map_nil, List.cons_append, List.nil_append, List.length_cons, List.length_nil, List.replicate_succ, List.replicate_zero, Nat.reduceAdd, Nat.reduceSub, Nat.zero_add, Nat.sub_self])
local macro_rules | `(tactic| walk_at "ev") => `(tactic| repeat' (first | exact PL.e_var rfl | exact PL.e_int | exact PL.e_bl | exact PL.e_str | exact PL.e_non | exact PL.a_nil | refine PL.p_cons ?_ ?_ | refine PL.p_f1 ?_ | refine PL.p_f2 ?_ | refine PL.p_add ?_ ?_ | refine PL.p_sub ?_ ?_ | refine PL.p_mul ?_ ?_ ?_ | refine PL.p_div ?_ ?_ ?_ | refine PL.p_mod ?_ ?_ ?_ | refine PL.p_pow ?_ ?_ ?_ | refine PL.p_lt ?_ ?_ | refine PL.p_le ?_ ?_ | refine PL.p_gt ?_ ?_ | refine PL.p_ge ?_ ?_ | refine PL.p_eqI ?_ ?_ | refine PL.p_neI ?_ ?_ | refine PL.p_neg ?_ | refine PL.p_gcd ?_ | refine PL.p_int1 ?_ | refine PL.p_abs ?_ | refine PL.p_len ?_ | refine PL.p_test ?_ | refine PL.d_ix0 ?_ | refine PL.d_ix1 ?_ | refine PL.d_ix2 ?_ | refine PL.d_ix3 ?_ | refine PL.p_list ?_ | refine' PL.p_i0 _ | refine' PL.p_i1 _ | refine' PL.p_i2 _))
namespace W
open PySem PySem.Spec PyProof.Rows L2 FR PL
def topS (i : Nat) : Stmt := PySem.Challenge.pw_steadybodies_k43_limbs_and_their_play.main.body.getD i (.Pass ⟨0, 0, 0, 0⟩)
abbrev s_plus : Stmt := topS 11
theorem sc_plus : FnScope ["a", "b", "shared", "stretched", "numerator", "divisor"] ["a", "b"] (defScope s_plus) := ⟨rfl, rfl, rfl, by decide +kernel, rfl, by decide +kernel, by decide +kernel⟩
abbrev s_minus : Stmt := topS 12
theorem sc_minus : FnScope ["a", "b"] ["a", "b"] (defScope s_minus) := ⟨rfl, rfl, rfl, by decide +kernel, rfl, by decide +kernel, by decide +kernel⟩
abbrev s_compare : Stmt := topS 13
theorem sc_compare : FnScope ["a", "b", "left", "right"] ["a", "b"] (defScope s_compare) := ⟨rfl, rfl, rfl, by decide +kernel, rfl, by decide +kernel, by decide +kernel⟩
abbrev s_is_sized : Stmt := topS 15
theorem sc_is_sized : FnScope ["size"] ["size"] (defScope s_is_sized) := ⟨rfl, rfl, rfl, by decide +kernel, rfl, by decide +kernel, by decide +kernel⟩
abbrev s_check_axis : Stmt := topS 16
theorem sc_check_axis : FnScope ["axis"] ["axis"] (defScope s_check_axis) := ⟨rfl, rfl, rfl, by decide +kernel, rfl, by decide +kernel, by decide +kernel⟩
abbrev s_ends_of : Stmt := topS 17
theorem sc_ends_of : FnScope ["box", "x", "y", "width", "height"] ["box"] (defScope s_ends_of) := ⟨rfl, rfl, rfl, by decide +kernel, rfl, by decide +kernel, by decide +kernel⟩
abbrev s_ends_overlap : Stmt := topS 18
theorem sc_ends_overlap : FnScope ["one", "other", "axis"] ["one", "other"] (defScope s_ends_overlap) := ⟨rfl, rfl, rfl, by decide +kernel, rfl, by decide +kernel, by decide +kernel⟩
abbrev s_linked_sets : Stmt := topS 20
theorem sc_linked_sets : FnScope ["names", "links", "set_of", "link", "member", "joined", "name"] ["names", "links"] (defScope s_linked_sets) := ⟨rfl, rfl, rfl, by decide +kernel, rfl, by decide +kernel, by decide +kernel⟩
abbrev s_check_state : Stmt := topS 28
theorem sc_check_state : FnScope ["state", "bodies", "joints", "_", "places", "joint"] ["state"] (defScope s_check_state) := ⟨rfl, rfl, rfl, by decide +kernel, rfl, by decide +kernel, by decide +kernel⟩
abbrev s_check_bodies : Stmt := topS 29
theorem sc_check_bodies : FnScope ["bodies", "before", "body", "name"] ["bodies"] (defScope s_check_bodies) := ⟨rfl, rfl, rfl, by decide +kernel, rfl, by decide +kernel, by decide +kernel⟩
abbrev s_is_body_sound : Stmt := topS 30
theorem sc_is_body_sound : FnScope ["body", "_", "size", "mass", "grip", "speed"] ["body"] (defScope s_is_body_sound) := ⟨rfl, rfl, rfl, by decide +kernel, rfl, by decide +kernel, by decide +kernel⟩
abbrev s_check_overlaps : Stmt := topS 31
theorem sc_check_overlaps : FnScope ["bodies", "ends", "at", "one", "other", "body"] ["bodies"] (defScope s_check_overlaps) := ⟨rfl, rfl, rfl, by decide +kernel, rfl, by decide +kernel, by decide +kernel⟩
abbrev s_check_joint : Stmt := topS 32
theorem sc_check_joint : FnScope ["places", "joint", "one", "other", "axis", "low", "high", "way"] ["places", "joint"] (defScope s_check_joint) := ⟨rfl, rfl, rfl, by decide +kernel, rfl, by decide +kernel, by decide +kernel⟩
abbrev s_joint_way : Stmt := topS 33
theorem sc_joint_way : FnScope ["places", "joint", "one", "other", "axis", "_"] ["places", "joint"] (defScope s_joint_way) := ⟨rfl, rfl, rfl, by decide +kernel, rfl, by decide +kernel, by decide +kernel⟩
abbrev s_is_moving : Stmt := topS 34
theorem sc_is_moving : FnScope ["body"] ["body"] (defScope s_is_moving) := ⟨rfl, rfl, rfl, by decide +kernel, rfl, by decide +kernel, by decide +kernel⟩
abbrev s_are_moving_names : Stmt := topS 35
theorem sc_are_moving_names : FnScope ["bodies", "names", "moving", "before", "name", "body"] ["bodies", "names"] (defScope s_are_moving_names) := ⟨rfl, rfl, rfl, by decide +kernel, rfl, by decide +kernel, by decide +kernel⟩
abbrev s_box_of_body : Stmt := topS 36
theorem sc_box_of_body : FnScope ["body"] ["body"] (defScope s_box_of_body) := ⟨rfl, rfl, rfl, by decide +kernel, rfl, by decide +kernel, by decide +kernel⟩
abbrev s_places_of : Stmt := topS 37
theorem sc_places_of : FnScope ["bodies", "body"] ["bodies"] (defScope s_places_of) := ⟨rfl, rfl, rfl, by decide +kernel, rfl, by decide +kernel, by decide +kernel⟩
abbrev s_limbs : Stmt := topS 39
theorem sc_limbs : FnScope ["state", "bodies", "joints", "_", "body", "joint"] ["state"] (defScope s_limbs) := ⟨rfl, rfl, rfl, by decide +kernel, rfl, by decide +kernel, by decide +kernel⟩
abbrev s_play : Stmt := topS 40
theorem sc_play : FnScope ["state", "one", "other", "axis", "places", "bounds", "most"] ["state", "one", "other", "axis"] (defScope s_play) := ⟨rfl, rfl, rfl, by decide +kernel, rfl, by decide +kernel, by decide +kernel⟩
abbrev s_bounds_of : Stmt := topS 41
theorem sc_bounds_of : FnScope ["state", "axis", "bodies", "joints", "_", "bounds", "one", "other", "own_axis", "low", "high", "fixed", "way", "body"] ["state", "axis"] (defScope s_bounds_of) := ⟨rfl, rfl, rfl, by decide +kernel, rfl, by decide +kernel, by decide +kernel⟩
abbrev s_most_from : Stmt := topS 42
theorem sc_most_from : FnScope ["bounds", "start", "most_of", "found", "one", "other", "most", "reach"] ["bounds", "start"] (defScope s_most_from) := ⟨rfl, rfl, rfl, by decide +kernel, rfl, by decide +kernel, by decide +kernel⟩
abbrev s_posed : Stmt := topS 43
theorem sc_posed : FnScope ["state", "places", "bodies", "joints", "pull", "place_of", "new_bodies", "new_state", "body", "name", "_"] ["state", "places"] (defScope s_posed) := ⟨rfl, rfl, rfl, by decide +kernel, rfl, by decide +kernel, by decide +kernel⟩
abbrev s_law_begin : Stmt := topS 45
theorem sc_law_begin : FnScope ["script", "seed", "cell"] ["script"] (defScope s_law_begin) := ⟨rfl, rfl, rfl, by decide +kernel, rfl, by decide +kernel, by decide +kernel⟩
abbrev s_law_take : Stmt := topS 46
theorem sc_law_take : FnScope ["d", "many", "small", "digit"] ["d", "many"] (defScope s_law_take) := ⟨rfl, rfl, rfl, by decide +kernel, rfl, by decide +kernel, by decide +kernel⟩
abbrev s_law_signed : Stmt := topS 47
theorem sc_law_signed : FnScope ["d", "most"] ["d", "most"] (defScope s_law_signed) := ⟨rfl, rfl, rfl, by decide +kernel, rfl, by decide +kernel, by decide +kernel⟩
abbrev s_law_gcd : Stmt := topS 48
theorem sc_law_gcd : FnScope ["a", "b"] ["a", "b"] (defScope s_law_gcd) := ⟨rfl, rfl, rfl, by decide +kernel, rfl, by decide +kernel, by decide +kernel⟩
abbrev s_law_f : Stmt := topS 49
theorem sc_law_f : FnScope ["a", "b", "c"] ["a", "b"] (defScope s_law_f) := ⟨rfl, rfl, rfl, by decide +kernel, rfl, by decide +kernel, by decide +kernel⟩
abbrev s_law_plus : Stmt := topS 50
theorem sc_law_plus : FnScope ["a", "b"] ["a", "b"] (defScope s_law_plus) := ⟨rfl, rfl, rfl, by decide +kernel, rfl, by decide +kernel, by decide +kernel⟩
abbrev s_law_minus : Stmt := topS 51
theorem sc_law_minus : FnScope ["a", "b"] ["a", "b"] (defScope s_law_minus) := ⟨rfl, rfl, rfl, by decide +kernel, rfl, by decide +kernel, by decide +kernel⟩
abbrev s_law_less : Stmt := topS 52
theorem sc_law_less : FnScope ["a", "b"] ["a", "b"] (defScope s_law_less) := ⟨rfl, rfl, rfl, by decide +kernel, rfl, by decide +kernel, by decide +kernel⟩
abbrev s_law_max : Stmt := topS 53
theorem sc_law_max : FnScope ["a", "b"] ["a", "b"] (defScope s_law_max) := ⟨rfl, rfl, rfl, by decide +kernel, rfl, by decide +kernel, by decide +kernel⟩
abbrev s_law_part : Stmt := topS 54
theorem sc_law_part : FnScope ["d", "most"] ["d", "most"] (defScope s_law_part) := ⟨rfl, rfl, rfl, by decide +kernel, rfl, by decide +kernel, by decide +kernel⟩
abbrev s_law_vector : Stmt := topS 55
theorem sc_law_vector : FnScope ["d", "most"] ["d", "most"] (defScope s_law_vector) := ⟨rfl, rfl, rfl, by decide +kernel, rfl, by decide +kernel, by decide +kernel⟩
abbrev s_law_high : Stmt := topS 56
theorem sc_law_high : FnScope ["box", "k"] ["box", "k"] (defScope s_law_high) := ⟨rfl, rfl, rfl, by decide +kernel, rfl, by decide +kernel, by decide +kernel⟩
abbrev s_law_gap : Stmt := topS 57
theorem sc_law_gap : FnScope ["a", "b", "k"] ["a", "b", "k"] (defScope s_law_gap) := ⟨rfl, rfl, rfl, by decide +kernel, rfl, by decide +kernel, by decide +kernel⟩
abbrev s_law_over : Stmt := topS 58
theorem sc_law_over : FnScope ["a", "b"] ["a", "b"] (defScope s_law_over) := ⟨rfl, rfl, rfl, by decide +kernel, rfl, by decide +kernel, by decide +kernel⟩
abbrev s_law_size : Stmt := topS 59
theorem sc_law_size : FnScope ["d"] ["d"] (defScope s_law_size) := ⟨rfl, rfl, rfl, by decide +kernel, rfl, by decide +kernel, by decide +kernel⟩
abbrev s_law_beside : Stmt := topS 60
theorem sc_law_beside : FnScope ["d", "box", "size", "k", "place"] ["d", "box", "size"] (defScope s_law_beside) := ⟨rfl, rfl, rfl, by decide +kernel, rfl, by decide +kernel, by decide +kernel⟩
abbrev s_law_box : Stmt := topS 61
theorem sc_law_box : FnScope ["d", "boxes", "size"] ["d", "boxes"] (defScope s_law_box) := ⟨rfl, rfl, rfl, by decide +kernel, rfl, by decide +kernel, by decide +kernel⟩
abbrev s_law_bodies : Stmt := topS 62
theorem sc_law_bodies : FnScope ["d", "many", "fixed", "bodies", "boxes", "name", "k", "box", "mass", "grip", "speed", "other"] ["d", "many", "fixed"] (defScope s_law_bodies) := ⟨rfl, rfl, rfl, by decide +kernel, rfl, by decide +kernel, by decide +kernel⟩
abbrev s_law_joints : Stmt := topS 63
theorem sc_law_joints : FnScope ["d", "bodies", "many", "joints", "k", "one", "other", "axis", "apart", "low"] ["d", "bodies", "many"] (defScope s_law_joints) := ⟨rfl, rfl, rfl, by decide +kernel, rfl, by decide +kernel, by decide +kernel⟩
abbrev s_law_class : Stmt := topS 64
theorem sc_law_class : FnScope ["e", "told"] ["e"] (defScope s_law_class) := ⟨rfl, rfl, rfl, by decide +kernel, rfl, by decide +kernel, by decide +kernel⟩
abbrev s_law_told : Stmt := topS 65
theorem sc_law_told : FnScope ["which", "state", "a", "b", "c", "found", "e"] ["which", "state", "a", "b", "c"] (defScope s_law_told) := ⟨rfl, rfl, rfl, by decide +kernel, rfl, by decide +kernel, by decide +kernel⟩
abbrev s_law_can : Stmt := topS 66
theorem sc_law_can : FnScope ["state", "axis", "one", "other", "gap", "limits", "a", "b", "k", "low", "high", "body", "fixed", "places", "turn", "calm", "n"] ["state", "axis", "one", "other", "gap"] (defScope s_law_can) := ⟨rfl, rfl, rfl, by decide +kernel, rfl, by decide +kernel, by decide +kernel⟩
abbrev s_law_ends : Stmt := topS 67
theorem sc_law_ends : FnScope ["state", "axis", "one", "other", "told", "k", "sign", "start"] ["state", "axis", "one", "other", "told"] (defScope s_law_ends) := ⟨rfl, rfl, rfl, by decide +kernel, rfl, by decide +kernel, by decide +kernel⟩
abbrev s_law_groups : Stmt := topS 68
theorem sc_law_groups : FnScope ["state", "groups", "body", "turn", "joint", "low", "first", "name"] ["state"] (defScope s_law_groups) := ⟨rfl, rfl, rfl, by decide +kernel, rfl, by decide +kernel, by decide +kernel⟩
abbrev s_law_posed : Stmt := topS 69
theorem sc_law_posed : FnScope ["state", "places", "table", "name", "place", "body", "bodies", "i", "other", "spots", "one", "axis", "low", "high", "apart"] ["state", "places"] (defScope s_law_posed) := ⟨rfl, rfl, rfl, by decide +kernel, rfl, by decide +kernel, by decide +kernel⟩
abbrev s_law : Stmt := topS 70
theorem sc_law : FnScope ["script", "d", "bodies", "state", "one", "other", "axis", "told", "body", "moving", "places", "fixed"] ["script"] (defScope s_law) := ⟨rfl, rfl, rfl, by decide +kernel, rfl, by decide +kernel, by decide +kernel⟩
variable [PL.Nm]
set_option genInjectivity false in
set_option genSizeOf false in
/-- what the top has written -/
structure Top (K : PySem.W.Frag) (mg : Str → Option Value) (base : Heap) where
  f_plus : Addr
  d_plus : FuncData
  F_plus : Fun K "plus" "plus" s_plus f_plus d_plus
  g_plus : mg "plus" = some (.ref f_plus)
  b_plus : Binds K d_plus ["a", "b"] []
  f_minus : Addr
  d_minus : FuncData
  F_minus : Fun K "minus" "minus" s_minus f_minus d_minus
  g_minus : mg "minus" = some (.ref f_minus)
  b_minus : Binds K d_minus ["a", "b"] []
  f_compare : Addr
  d_compare : FuncData
  F_compare : Fun K "compare" "compare" s_compare f_compare d_compare
  g_compare : mg "compare" = some (.ref f_compare)
  b_compare : Binds K d_compare ["a", "b"] []
  f_is_sized : Addr
  d_is_sized : FuncData
  F_is_sized : Fun K "is_sized" "is_sized" s_is_sized f_is_sized d_is_sized
  g_is_sized : mg "is_sized" = some (.ref f_is_sized)
  b_is_sized : Binds K d_is_sized ["size"] []
  f_check_axis : Addr
  d_check_axis : FuncData
  F_check_axis : Fun K "check_axis" "check_axis" s_check_axis f_check_axis d_check_axis
  g_check_axis : mg "check_axis" = some (.ref f_check_axis)
  b_check_axis : Binds K d_check_axis ["axis"] []
  f_ends_of : Addr
  d_ends_of : FuncData
  F_ends_of : Fun K "ends_of" "ends_of" s_ends_of f_ends_of d_ends_of
  g_ends_of : mg "ends_of" = some (.ref f_ends_of)
  b_ends_of : Binds K d_ends_of ["box"] []
  f_ends_overlap : Addr
  d_ends_overlap : FuncData
  tc_ends_overlap : Addr
  tp_ends_overlap : Addr
  tb_ends_overlap : GxR.TabB base mg tc_ends_overlap tp_ends_overlap
  F_ends_overlap : PL.FunC K "ends_overlap" "ends_overlap" s_ends_overlap f_ends_overlap d_ends_overlap tc_ends_overlap
  g_ends_overlap : mg "ends_overlap" = some (.ref f_ends_overlap)
  b_ends_overlap : Binds K d_ends_overlap ["one", "other"] []
  f_linked_sets : Addr
  d_linked_sets : FuncData
  F_linked_sets : Fun K "linked_sets" "linked_sets" s_linked_sets f_linked_sets d_linked_sets
  g_linked_sets : mg "linked_sets" = some (.ref f_linked_sets)
  b_linked_sets : Binds K d_linked_sets ["names", "links"] []
  f_check_state : Addr
  d_check_state : FuncData
  F_check_state : Fun K "check_state" "check_state" s_check_state f_check_state d_check_state
  g_check_state : mg "check_state" = some (.ref f_check_state)
  b_check_state : Binds K d_check_state ["state"] []
  f_check_bodies : Addr
  d_check_bodies : FuncData
  F_check_bodies : Fun K "check_bodies" "check_bodies" s_check_bodies f_check_bodies d_check_bodies
  g_check_bodies : mg "check_bodies" = some (.ref f_check_bodies)
  b_check_bodies : Binds K d_check_bodies ["bodies"] []
  f_is_body_sound : Addr
  d_is_body_sound : FuncData
  F_is_body_sound : Fun K "is_body_sound" "is_body_sound" s_is_body_sound f_is_body_sound d_is_body_sound
  g_is_body_sound : mg "is_body_sound" = some (.ref f_is_body_sound)
  b_is_body_sound : Binds K d_is_body_sound ["body"] []
  f_check_overlaps : Addr
  d_check_overlaps : FuncData
  F_check_overlaps : Fun K "check_overlaps" "check_overlaps" s_check_overlaps f_check_overlaps d_check_overlaps
  g_check_overlaps : mg "check_overlaps" = some (.ref f_check_overlaps)
  b_check_overlaps : Binds K d_check_overlaps ["bodies"] []
  f_check_joint : Addr
  d_check_joint : FuncData
  F_check_joint : Fun K "check_joint" "check_joint" s_check_joint f_check_joint d_check_joint
  g_check_joint : mg "check_joint" = some (.ref f_check_joint)
  b_check_joint : Binds K d_check_joint ["places", "joint"] []
  f_joint_way : Addr
  d_joint_way : FuncData
  F_joint_way : Fun K "joint_way" "joint_way" s_joint_way f_joint_way d_joint_way
  g_joint_way : mg "joint_way" = some (.ref f_joint_way)
  b_joint_way : Binds K d_joint_way ["places", "joint"] []
  f_is_moving : Addr
  d_is_moving : FuncData
  F_is_moving : Fun K "is_moving" "is_moving" s_is_moving f_is_moving d_is_moving
  g_is_moving : mg "is_moving" = some (.ref f_is_moving)
  b_is_moving : Binds K d_is_moving ["body"] []
  f_are_moving_names : Addr
  d_are_moving_names : FuncData
  F_are_moving_names : Fun K "are_moving_names" "are_moving_names" s_are_moving_names f_are_moving_names d_are_moving_names
  g_are_moving_names : mg "are_moving_names" = some (.ref f_are_moving_names)
  b_are_moving_names : Binds K d_are_moving_names ["bodies", "names"] []
  f_box_of_body : Addr
  d_box_of_body : FuncData
  F_box_of_body : Fun K "box_of_body" "box_of_body" s_box_of_body f_box_of_body d_box_of_body
  g_box_of_body : mg "box_of_body" = some (.ref f_box_of_body)
  b_box_of_body : Binds K d_box_of_body ["body"] []
  f_places_of : Addr
  d_places_of : FuncData
  F_places_of : Fun K "places_of" "places_of" s_places_of f_places_of d_places_of
  g_places_of : mg "places_of" = some (.ref f_places_of)
  b_places_of : Binds K d_places_of ["bodies"] []
  f_limbs : Addr
  d_limbs : FuncData
  F_limbs : Fun K "limbs" "limbs" s_limbs f_limbs d_limbs
  g_limbs : mg "limbs" = some (.ref f_limbs)
  b_limbs : Binds K d_limbs ["state"] []
  f_play : Addr
  d_play : FuncData
  F_play : Fun K "play" "play" s_play f_play d_play
  g_play : mg "play" = some (.ref f_play)
  b_play : Binds K d_play ["state", "one", "other", "axis"] []
  f_bounds_of : Addr
  d_bounds_of : FuncData
  F_bounds_of : Fun K "bounds_of" "bounds_of" s_bounds_of f_bounds_of d_bounds_of
  g_bounds_of : mg "bounds_of" = some (.ref f_bounds_of)
  b_bounds_of : Binds K d_bounds_of ["state", "axis"] []
  f_most_from : Addr
  d_most_from : FuncData
  F_most_from : Fun K "most_from" "most_from" s_most_from f_most_from d_most_from
  g_most_from : mg "most_from" = some (.ref f_most_from)
  b_most_from : Binds K d_most_from ["bounds", "start"] []
  f_posed : Addr
  d_posed : FuncData
  F_posed : Fun K "posed" "posed" s_posed f_posed d_posed
  g_posed : mg "posed" = some (.ref f_posed)
  b_posed : Binds K d_posed ["state", "places"] []
  f_law_begin : Addr
  d_law_begin : FuncData
  F_law_begin : Fun K "_law_begin" "_law_begin" s_law_begin f_law_begin d_law_begin
  g_law_begin : mg "_law_begin" = some (.ref f_law_begin)
  b_law_begin : Binds K d_law_begin ["script"] []
  f_law_take : Addr
  d_law_take : FuncData
  F_law_take : Fun K "_law_take" "_law_take" s_law_take f_law_take d_law_take
  g_law_take : mg "_law_take" = some (.ref f_law_take)
  b_law_take : Binds K d_law_take ["d", "many"] []
  f_law_signed : Addr
  d_law_signed : FuncData
  F_law_signed : Fun K "_law_signed" "_law_signed" s_law_signed f_law_signed d_law_signed
  g_law_signed : mg "_law_signed" = some (.ref f_law_signed)
  b_law_signed : Binds K d_law_signed ["d", "most"] []
  f_law_gcd : Addr
  d_law_gcd : FuncData
  F_law_gcd : Fun K "_law_gcd" "_law_gcd" s_law_gcd f_law_gcd d_law_gcd
  g_law_gcd : mg "_law_gcd" = some (.ref f_law_gcd)
  b_law_gcd : Binds K d_law_gcd ["a", "b"] []
  f_law_f : Addr
  d_law_f : FuncData
  F_law_f : Fun K "_law_f" "_law_f" s_law_f f_law_f d_law_f
  g_law_f : mg "_law_f" = some (.ref f_law_f)
  b_law_f : Binds K d_law_f ["a", "b"] []
  f_law_plus : Addr
  d_law_plus : FuncData
  F_law_plus : Fun K "_law_plus" "_law_plus" s_law_plus f_law_plus d_law_plus
  g_law_plus : mg "_law_plus" = some (.ref f_law_plus)
  b_law_plus : Binds K d_law_plus ["a", "b"] []
  f_law_minus : Addr
  d_law_minus : FuncData
  F_law_minus : Fun K "_law_minus" "_law_minus" s_law_minus f_law_minus d_law_minus
  g_law_minus : mg "_law_minus" = some (.ref f_law_minus)
  b_law_minus : Binds K d_law_minus ["a", "b"] []
  f_law_less : Addr
  d_law_less : FuncData
  F_law_less : Fun K "_law_less" "_law_less" s_law_less f_law_less d_law_less
  g_law_less : mg "_law_less" = some (.ref f_law_less)
  b_law_less : Binds K d_law_less ["a", "b"] []
  f_law_max : Addr
  d_law_max : FuncData
  F_law_max : Fun K "_law_max" "_law_max" s_law_max f_law_max d_law_max
  g_law_max : mg "_law_max" = some (.ref f_law_max)
  b_law_max : Binds K d_law_max ["a", "b"] []
  f_law_part : Addr
  d_law_part : FuncData
  F_law_part : Fun K "_law_part" "_law_part" s_law_part f_law_part d_law_part
  g_law_part : mg "_law_part" = some (.ref f_law_part)
  b_law_part : Binds K d_law_part ["d", "most"] []
  f_law_vector : Addr
  d_law_vector : FuncData
  F_law_vector : Fun K "_law_vector" "_law_vector" s_law_vector f_law_vector d_law_vector
  g_law_vector : mg "_law_vector" = some (.ref f_law_vector)
  b_law_vector : Binds K d_law_vector ["d", "most"] []
  f_law_high : Addr
  d_law_high : FuncData
  F_law_high : Fun K "_law_high" "_law_high" s_law_high f_law_high d_law_high
  g_law_high : mg "_law_high" = some (.ref f_law_high)
  b_law_high : Binds K d_law_high ["box", "k"] []
  f_law_gap : Addr
  d_law_gap : FuncData
  F_law_gap : Fun K "_law_gap" "_law_gap" s_law_gap f_law_gap d_law_gap
  g_law_gap : mg "_law_gap" = some (.ref f_law_gap)
  b_law_gap : Binds K d_law_gap ["a", "b", "k"] []
  f_law_over : Addr
  d_law_over : FuncData
  F_law_over : Fun K "_law_over" "_law_over" s_law_over f_law_over d_law_over
  g_law_over : mg "_law_over" = some (.ref f_law_over)
  b_law_over : Binds K d_law_over ["a", "b"] []
  f_law_size : Addr
  d_law_size : FuncData
  F_law_size : Fun K "_law_size" "_law_size" s_law_size f_law_size d_law_size
  g_law_size : mg "_law_size" = some (.ref f_law_size)
  b_law_size : Binds K d_law_size ["d"] []
  f_law_beside : Addr
  d_law_beside : FuncData
  F_law_beside : Fun K "_law_beside" "_law_beside" s_law_beside f_law_beside d_law_beside
  g_law_beside : mg "_law_beside" = some (.ref f_law_beside)
  b_law_beside : Binds K d_law_beside ["d", "box", "size"] []
  f_law_box : Addr
  d_law_box : FuncData
  F_law_box : Fun K "_law_box" "_law_box" s_law_box f_law_box d_law_box
  g_law_box : mg "_law_box" = some (.ref f_law_box)
  b_law_box : Binds K d_law_box ["d", "boxes"] []
  f_law_bodies : Addr
  d_law_bodies : FuncData
  F_law_bodies : Fun K "_law_bodies" "_law_bodies" s_law_bodies f_law_bodies d_law_bodies
  g_law_bodies : mg "_law_bodies" = some (.ref f_law_bodies)
  b_law_bodies : Binds K d_law_bodies ["d", "many", "fixed"] []
  f_law_joints : Addr
  d_law_joints : FuncData
  F_law_joints : Fun K "_law_joints" "_law_joints" s_law_joints f_law_joints d_law_joints
  g_law_joints : mg "_law_joints" = some (.ref f_law_joints)
  b_law_joints : Binds K d_law_joints ["d", "bodies", "many"] []
  f_law_class : Addr
  d_law_class : FuncData
  F_law_class : Fun K "_law_class" "_law_class" s_law_class f_law_class d_law_class
  g_law_class : mg "_law_class" = some (.ref f_law_class)
  b_law_class : Binds K d_law_class ["e"] []
  f_law_told : Addr
  d_law_told : FuncData
  F_law_told : Fun K "_law_told" "_law_told" s_law_told f_law_told d_law_told
  g_law_told : mg "_law_told" = some (.ref f_law_told)
  b_law_told : Binds K d_law_told ["which", "state", "a", "b", "c"] []
  f_law_can : Addr
  d_law_can : FuncData
  F_law_can : Fun K "_law_can" "_law_can" s_law_can f_law_can d_law_can
  g_law_can : mg "_law_can" = some (.ref f_law_can)
  b_law_can : Binds K d_law_can ["state", "axis", "one", "other", "gap"] []
  f_law_ends : Addr
  d_law_ends : FuncData
  F_law_ends : Fun K "_law_ends" "_law_ends" s_law_ends f_law_ends d_law_ends
  g_law_ends : mg "_law_ends" = some (.ref f_law_ends)
  b_law_ends : Binds K d_law_ends ["state", "axis", "one", "other", "told"] []
  f_law_groups : Addr
  d_law_groups : FuncData
  F_law_groups : Fun K "_law_groups" "_law_groups" s_law_groups f_law_groups d_law_groups
  g_law_groups : mg "_law_groups" = some (.ref f_law_groups)
  b_law_groups : Binds K d_law_groups ["state"] []
  f_law_posed : Addr
  d_law_posed : FuncData
  F_law_posed : Fun K "_law_posed" "_law_posed" s_law_posed f_law_posed d_law_posed
  g_law_posed : mg "_law_posed" = some (.ref f_law_posed)
  b_law_posed : Binds K d_law_posed ["state", "places"] []
  f_law : Addr
  d_law : FuncData
  F_law : Fun K "law" "law" s_law f_law d_law
  g_law : mg "law" = some (.ref f_law)
  b_law : Binds K d_law ["script"] []
  k_ZERO : Addr
  gk_ZERO : mg "ZERO" = some (.ref k_ZERO)
  dk_ZERO : ∀ G, SqT K G k_ZERO [.int (0), .int (1)]
  t_BODY_LIMIT : Tok
  gk_BODY_LIMIT : mg "BODY_LIMIT" = some (.int 24 t_BODY_LIMIT)
  t_JOINT_LIMIT : Tok
  gk_JOINT_LIMIT : mg "JOINT_LIMIT" = some (.int 24 t_JOINT_LIMIT)
  t_MASS_LIMIT : Tok
  gk_MASS_LIMIT : mg "MASS_LIMIT" = some (.int 1000 t_MASS_LIMIT)
  t_NAME_LIMIT : Tok
  gk_NAME_LIMIT : mg "NAME_LIMIT" = some (.int 999999999 t_NAME_LIMIT)
  k_GRIP_LIMIT : Addr
  gk_GRIP_LIMIT : mg "GRIP_LIMIT" = some (.ref k_GRIP_LIMIT)
  dk_GRIP_LIMIT : ∀ G, SqT K G k_GRIP_LIMIT [.int (4), .int (1)]
  k_STANDING : Addr
  gk_STANDING : mg "STANDING" = some (.ref k_STANDING)
  dk_STANDING : ∀ G, Dp K G (.ref k_STANDING) (.tuple [.tuple [.int (0), .int (1)], .tuple [.int (0), .int (1)]])
  c_SteadyError : Addr
  gc_SteadyError : mg "SteadyError" = some (.ref c_SteadyError)
  xc_SteadyError : PySem.W.excIn K c_SteadyError [.type "ValueError", .type "Exception", .type "BaseException", .type "object"] "ValueError.__new__" = true
  kc_SteadyError : PySem.W.keepIn K (.ref c_SteadyError) = true
  bc_SteadyError : PySem.W.subIn K (.ref c_SteadyError) (.type "BaseException") = some true
  tc_SteadyError : PySem.W.typeIn K (.ref c_SteadyError) = some (.type "type")
  hc_SteadyError : PySem.W.hasDictIn K c_SteadyError = true
  c_AxisError : Addr
  gc_AxisError : mg "AxisError" = some (.ref c_AxisError)
  xc_AxisError : PySem.W.excIn K c_AxisError [.type "ValueError", .type "Exception", .type "BaseException", .type "object"] "ValueError.__new__" = true
  kc_AxisError : PySem.W.keepIn K (.ref c_AxisError) = true
  bc_AxisError : PySem.W.subIn K (.ref c_AxisError) (.type "BaseException") = some true
  tc_AxisError : PySem.W.typeIn K (.ref c_AxisError) = some (.type "type")
  hc_AxisError : PySem.W.hasDictIn K c_AxisError = true
  c_IdError : Addr
  gc_IdError : mg "IdError" = some (.ref c_IdError)
  xc_IdError : PySem.W.excIn K c_IdError [.type "ValueError", .type "Exception", .type "BaseException", .type "object"] "ValueError.__new__" = true
  kc_IdError : PySem.W.keepIn K (.ref c_IdError) = true
  bc_IdError : PySem.W.subIn K (.ref c_IdError) (.type "BaseException") = some true
  tc_IdError : PySem.W.typeIn K (.ref c_IdError) = some (.type "type")
  hc_IdError : PySem.W.hasDictIn K c_IdError = true
  c_TooLarge : Addr
  gc_TooLarge : mg "TooLarge" = some (.ref c_TooLarge)
  xc_TooLarge : PySem.W.excIn K c_TooLarge [.type "ValueError", .type "Exception", .type "BaseException", .type "object"] "ValueError.__new__" = true
  kc_TooLarge : PySem.W.keepIn K (.ref c_TooLarge) = true
  bc_TooLarge : PySem.W.subIn K (.ref c_TooLarge) (.type "BaseException") = some true
  tc_TooLarge : PySem.W.typeIn K (.ref c_TooLarge) = some (.type "type")
  hc_TooLarge : PySem.W.hasDictIn K c_TooLarge = true
  c_BodyError : Addr
  gc_BodyError : mg "BodyError" = some (.ref c_BodyError)
  xc_BodyError : PySem.W.excIn K c_BodyError [.type "ValueError", .type "Exception", .type "BaseException", .type "object"] "ValueError.__new__" = true
  kc_BodyError : PySem.W.keepIn K (.ref c_BodyError) = true
  bc_BodyError : PySem.W.subIn K (.ref c_BodyError) (.type "BaseException") = some true
  tc_BodyError : PySem.W.typeIn K (.ref c_BodyError) = some (.type "type")
  hc_BodyError : PySem.W.hasDictIn K c_BodyError = true
  c_OverlapError : Addr
  gc_OverlapError : mg "OverlapError" = some (.ref c_OverlapError)
  xc_OverlapError : PySem.W.excIn K c_OverlapError [.type "ValueError", .type "Exception", .type "BaseException", .type "object"] "ValueError.__new__" = true
  kc_OverlapError : PySem.W.keepIn K (.ref c_OverlapError) = true
  bc_OverlapError : PySem.W.subIn K (.ref c_OverlapError) (.type "BaseException") = some true
  tc_OverlapError : PySem.W.typeIn K (.ref c_OverlapError) = some (.type "type")
  hc_OverlapError : PySem.W.hasDictIn K c_OverlapError = true
  c_JointError : Addr
  gc_JointError : mg "JointError" = some (.ref c_JointError)
  xc_JointError : PySem.W.excIn K c_JointError [.type "ValueError", .type "Exception", .type "BaseException", .type "object"] "ValueError.__new__" = true
  kc_JointError : PySem.W.keepIn K (.ref c_JointError) = true
  bc_JointError : PySem.W.subIn K (.ref c_JointError) (.type "BaseException") = some true
  tc_JointError : PySem.W.typeIn K (.ref c_JointError) = some (.type "type")
  hc_JointError : PySem.W.hasDictIn K c_JointError = true
  ac_SteadyError_SteadyError : PySem.W.subIn K (.ref c_SteadyError) (.ref c_SteadyError) = some true
  ac_AxisError_AxisError : PySem.W.subIn K (.ref c_AxisError) (.ref c_AxisError) = some true
  ac_AxisError_SteadyError : PySem.W.subIn K (.ref c_AxisError) (.ref c_SteadyError) = some true
  ac_IdError_IdError : PySem.W.subIn K (.ref c_IdError) (.ref c_IdError) = some true
  ac_IdError_SteadyError : PySem.W.subIn K (.ref c_IdError) (.ref c_SteadyError) = some true
  ac_TooLarge_TooLarge : PySem.W.subIn K (.ref c_TooLarge) (.ref c_TooLarge) = some true
  ac_TooLarge_SteadyError : PySem.W.subIn K (.ref c_TooLarge) (.ref c_SteadyError) = some true
  ac_BodyError_BodyError : PySem.W.subIn K (.ref c_BodyError) (.ref c_BodyError) = some true
  ac_BodyError_SteadyError : PySem.W.subIn K (.ref c_BodyError) (.ref c_SteadyError) = some true
  ac_OverlapError_OverlapError : PySem.W.subIn K (.ref c_OverlapError) (.ref c_OverlapError) = some true
  ac_OverlapError_SteadyError : PySem.W.subIn K (.ref c_OverlapError) (.ref c_SteadyError) = some true
  ac_JointError_JointError : PySem.W.subIn K (.ref c_JointError) (.ref c_JointError) = some true
  ac_JointError_SteadyError : PySem.W.subIn K (.ref c_JointError) (.ref c_SteadyError) = some true
  no_AxisError_IdError : PySem.W.subIn K (.ref c_AxisError) (.ref c_IdError) = some false
  no_AxisError_OverlapError : PySem.W.subIn K (.ref c_AxisError) (.ref c_OverlapError) = some false
  no_AxisError_JointError : PySem.W.subIn K (.ref c_AxisError) (.ref c_JointError) = some false
  no_IdError_AxisError : PySem.W.subIn K (.ref c_IdError) (.ref c_AxisError) = some false
  no_IdError_OverlapError : PySem.W.subIn K (.ref c_IdError) (.ref c_OverlapError) = some false
  no_IdError_JointError : PySem.W.subIn K (.ref c_IdError) (.ref c_JointError) = some false
  no_TooLarge_AxisError : PySem.W.subIn K (.ref c_TooLarge) (.ref c_AxisError) = some false
  no_TooLarge_IdError : PySem.W.subIn K (.ref c_TooLarge) (.ref c_IdError) = some false
  no_TooLarge_OverlapError : PySem.W.subIn K (.ref c_TooLarge) (.ref c_OverlapError) = some false
  no_TooLarge_JointError : PySem.W.subIn K (.ref c_TooLarge) (.ref c_JointError) = some false
  no_BodyError_AxisError : PySem.W.subIn K (.ref c_BodyError) (.ref c_AxisError) = some false
  no_BodyError_IdError : PySem.W.subIn K (.ref c_BodyError) (.ref c_IdError) = some false
  no_BodyError_OverlapError : PySem.W.subIn K (.ref c_BodyError) (.ref c_OverlapError) = some false
  no_BodyError_JointError : PySem.W.subIn K (.ref c_BodyError) (.ref c_JointError) = some false
  no_OverlapError_AxisError : PySem.W.subIn K (.ref c_OverlapError) (.ref c_AxisError) = some false
  no_OverlapError_IdError : PySem.W.subIn K (.ref c_OverlapError) (.ref c_IdError) = some false
  no_OverlapError_JointError : PySem.W.subIn K (.ref c_OverlapError) (.ref c_JointError) = some false
  no_JointError_AxisError : PySem.W.subIn K (.ref c_JointError) (.ref c_AxisError) = some false
  no_JointError_IdError : PySem.W.subIn K (.ref c_JointError) (.ref c_IdError) = some false
  no_JointError_OverlapError : PySem.W.subIn K (.ref c_JointError) (.ref c_OverlapError) = some false
  E_AxisError : ExcC K c_AxisError
  E_IdError : ExcC K c_IdError
  E_TooLarge : ExcC K c_TooLarge
  E_BodyError : ExcC K c_BodyError
  E_OverlapError : ExcC K c_OverlapError
  E_JointError : ExcC K c_JointError
  n_abs : mg "abs" = none
  n_all : mg "all" = none
  n_any : mg "any" = none
  n_dict : mg "dict" = none
  n_enumerate : mg "enumerate" = none
  n_int : mg "int" = none
  n_isinstance : mg "isinstance" = none
  n_len : mg "len" = none
  n_list : mg "list" = none
  n_min : mg "min" = none
  n_range : mg "range" = none
  n_set : mg "set" = none
  n_sorted : mg "sorted" = none
  n_tuple : mg "tuple" = none
  n_zip : mg "zip" = none
  n_gcd : mg "gcd" = some (.builtin "math.gcd")
/-- the tables of code objects that are written -/
abbrev Top.tabs {K : PySem.W.Frag} {mg : Str → Option Value} {base : Heap} (Tp : Top K mg base) : PL.Tbs := ⟨[Tp.tp_ends_overlap], []⟩
def RCmp (ds : List Dat) (d : Dat) : Prop := ∃ a b : F, ds = [.d (fr a), .d (fr b)] ∧ PL.Ok 4000 a ∧ PL.Ok 4000 b ∧ d = .i (cmpM a b)
theorem less_cmp (w b : F) : less w b = decide (cmpM w b < 0) := by
  unfold less cmpM
  split
  · rename_i c
    rw [decide_eq_true c]
    rfl
  · rename_i c
    rw [decide_eq_false c]
    split <;> rfl
theorem more_cmp (w b : F) : more w b = decide (0 < cmpM w b) := by
  unfold more less cmpM
  split
  · rename_i c
    rw [decide_eq_false (by omega)]
    rfl
  · split
    · rename_i c
      rw [decide_eq_true c]
      rfl
    · rename_i c
      rw [decide_eq_false c]
      rfl
def RLess (ds : List Dat) (d : Dat) : Prop := ∃ a b : F, ds = [.d (fr a), .d (fr b)] ∧ PL.Ok 4000 a ∧ PL.Ok 4000 b ∧ d = .b (less a b)
/-- boxes -/
structure Bx where
  p0 : F
  p1 : F
  s0 : F
  s1 : F
abbrev bxd (b : Bx) : PyData := .tuple [.tuple [fr b.p0, fr b.p1], .tuple [fr b.s0, fr b.s1]]
abbrev vcd (a b : F) : PyData := .tuple [fr a, fr b]
def Bx.sized (b : Bx) : Bool := decide (0 < b.s0.1) && decide (0 < b.s1.1)
def RSized (ds : List Dat) (d : Dat) : Prop := ∃ a b : F, ds = [.t [fr a, fr b]] ∧ d = .b (decide (0 < a.1) && decide (0 < b.1))
def REnds (ds : List Dat) (d : Dat) : Prop := ∃ b : Bx, ds = [.d (bxd b)] ∧ PL.Ok 4000 b.p0 ∧ PL.Ok 4000 b.p1 ∧ PL.Ok 4000 b.s0 ∧ PL.Ok 4000 b.s1 ∧ d = .t [vcd b.p0 (plusM b.p0 b.s0), vcd b.p1 (plusM b.p1 b.s1)]
theorem ok_c0 {n : Nat} (h : 2 ≤ n) : PL.Ok n ((0, 1) : F) := PL.Ok.mono (m := 2) ⟨⟨by decide, by decide⟩, ⟨by decide, by decide⟩⟩ h
structure AxSz (a : Ax) : Prop where
  l : PL.Ok 401 a.l
  h : PL.Ok 401 a.h
  o : PL.Ok 200 a.o
  w : PL.Ok 200 a.w
theorem AxSz.ok {a : Ax} (s : AxSz a) : a.Ok := ⟨s.l.nrm, s.h.nrm, s.o.nrm, s.w.nrm⟩
def RHigh (ds : List Dat) (d : Dat) : Prop := ∃ (b : Bx) (k : Int), ds = [.d (bxd b), .i k] ∧ (k = 0 ∨ k = 1) ∧ PL.Ok 4000 b.p0 ∧ PL.Ok 4000 b.p1 ∧ PL.Ok 4000 b.s0 ∧ PL.Ok 4000 b.s1 ∧ d = .d (fr (if k = 0 then plusM b.p0 b.s0 else plusM b.p1 b.s1))
def sizeM (C : DS) : (F × F) × DS :=
  let a := take C 6
  let b := take a.2 2
  let c := take b.2 6
  let e := take c.2 2
  ((lf (1 + a.1) (1 + b.1), lf (1 + c.1) (1 + e.1)), e.2)
theorem lf_up {n d : Int} (hn : 0 < n) (hd : 0 < d) : 0 < (lf n d).1 := by
  have h1 := lf_cross (n := n) (d := d) (by omega)
  have h2 := (lf_nrm (n := n) (d := d) (by omega)).1
  have h3 := Int.mul_pos hn h2
  rw [← h1] at h3
  exact Int.pos_of_mul_pos_left h3 hd
theorem size_ok {C : DS} (ok : DOk C) : DOk (sizeM C).2 ∧ PL.Ok 10 (sizeM C).1.1 ∧ PL.Ok 10 (sizeM C).1.2 ∧ 0 < (sizeM C).1.1.1 ∧ 0 < (sizeM C).1.2.1 := by
  obtain ⟨o1, a1, a2⟩ := take_ok (C := C) (m := 6) ok (by decide)
  obtain ⟨o2, b1, b2⟩ := take_ok (C := (take C 6).2) (m := 2) o1 (by decide)
  obtain ⟨o3, c1, c2⟩ := take_ok (C := (take (take C 6).2 2).2) (m := 6) o2 (by decide)
  obtain ⟨o4, e1, e2⟩ := take_ok (C := (take (take (take C 6).2 2).2 6).2) (m := 2) o3 (by decide)
  exact ⟨o4, PL.ok_lf (by omega) (by omega) (by omega), PL.ok_lf (by omega) (by omega) (by omega), lf_up (by omega) (by omega), lf_up (by omega) (by omega)⟩
def RSize (ds : List Dat) (C : DS) (d : Dat) (C' : DS) : Prop := ds = [] ∧ DOk C ∧ d = .t [fr (sizeM C).1.1, fr (sizeM C).1.2] ∧ C' = (sizeM C).2
theorem s_seqX {K : PySem.W.Frag} {ρ : Rho} {I : Asn} {ts us : TS} {k : Out} {α : Type} (W : α → Prop) (P : α → Rho) (V : α → Asn) (h : ∃ a, W a ∧ S K ts ρ I (.nx (P a) (V a))) (h2 : ∀ a, W a → S K us (P a) (V a) k) : S K (tSeq ts us) ρ I k := h.elim fun a z => s_seq z.2 (h2 a z.1)
structure SxSz (a : Sx) : Prop where
  la : PL.Ok 100 a.la
  sa : PL.Ok 100 a.sa
  va : PL.Ok 100 a.va
  lb : PL.Ok 100 a.lb
  sb : PL.Ok 100 a.sb
  vb : PL.Ok 100 a.vb
theorem SxSz.ok {a : Sx} (s : SxSz a) : a.Ok := ⟨s.la.nrm, s.sa.nrm, s.va.nrm, s.lb.nrm, s.sb.nrm, s.vb.nrm⟩
theorem SxSz.ha {a : Sx} (s : SxSz a) : PL.Ok 201 (plusM a.la a.sa) := PL.ok_plus s.la s.sa
theorem SxSz.hb {a : Sx} (s : SxSz a) : PL.Ok 201 (plusM a.lb a.sb) := PL.ok_plus s.lb s.sb
theorem SxSz.lo {a : Sx} (s : SxSz a) : PL.Ok 302 a.lo := PL.ok_minus s.la s.hb
theorem SxSz.hi {a : Sx} (s : SxSz a) : PL.Ok 302 a.hi := PL.ok_minus s.ha s.lb
theorem SxSz.w {a : Sx} (s : SxSz a) : PL.Ok 201 a.w := PL.ok_minus s.vb s.va
def RMax (ds : List Dat) (d : Dat) : Prop := ∃ x y : F, ds = [.d (fr x), .d (fr y)] ∧ PL.Ok 4000 x ∧ PL.Ok 4000 y ∧ d = .d (fr (lmx x y))
/-- a box with ends below 2 ^ 1500 -/
structure BxSz (b : Bx) : Prop where
  p0 : PL.Ok 1500 b.p0
  p1 : PL.Ok 1500 b.p1
  s0 : PL.Ok 100 b.s0
  s1 : PL.Ok 100 b.s1
def RGap (ds : List Dat) (d : Dat) : Prop := ∃ (a b : Bx) (k : Int), ds = [.d (bxd a), .d (bxd b), .i k] ∧ (k = 0 ∨ k = 1) ∧ BxSz a ∧ BxSz b ∧ d = .d (fr (if k = 0 then gapM a.p0 a.s0 b.p0 b.s0 else gapM a.p1 a.s1 b.p1 b.s1))
def ROverB (ds : List Dat) (d : Dat) : Prop := ∃ a b : Bx, ds = [.d (bxd a), .d (bxd b)] ∧ BxSz a ∧ BxSz b ∧ d = .b (decide ((gapM a.p0 a.s0 b.p0 b.s0).1 < 0) && decide ((gapM a.p1 a.s1 b.p1 b.s1).1 < 0))
def besideM (C : DS) (b : Bx) (s0 s1 : F) : (F × F) × DS :=
  let k := take C 2
  let x := partM k.2 2
  let y := partM x.2 2
  let u := take y.2 2
  let t := take u.2 4
  let v0 : F := if u.1 = 1 then plusM b.p0 b.s0 else lminus b.p0 s0
  let v1 : F := if u.1 = 1 then plusM b.p1 b.s1 else lminus b.p1 s1
  if k.1 = 0 then ((v0, if t.1 = 1 then b.p1 else lplus b.p1 y.1), t.2) else ((if t.1 = 1 then b.p0 else lplus b.p0 x.1, v1), t.2)
/-- a box with parts below 2 ^ 1500 -/
structure Bz (b : Bx) : Prop where
  p0 : PL.Ok 1500 b.p0
  p1 : PL.Ok 1500 b.p1
  s0 : PL.Ok 1500 b.s0
  s1 : PL.Ok 1500 b.s1
theorem Bz.h0 {b : Bx} (h : Bz b) : PL.Ok 4000 (plusM b.p0 b.s0) := (PL.ok_plus h.p0 h.s0).mono (by decide)
theorem Bz.h1 {b : Bx} (h : Bz b) : PL.Ok 4000 (plusM b.p1 b.s1) := (PL.ok_plus h.p1 h.s1).mono (by decide)
def lt0 (i j : Int) : Bool := decide (i < j)
def pairM (f : Int → Int → Bool) (a b : Bx) : Bool := (f (cmpM b.p0 (plusM a.p0 a.s0)) 0 && f (cmpM a.p0 (plusM b.p0 b.s0)) 0) && (f (cmpM b.p1 (plusM a.p1 a.s1)) 0 && f (cmpM a.p1 (plusM b.p1 b.s1)) 0)
theorem gen_two (x y : Bool) : genB true [(true, x), (true, y)] = (x && y) := by cases x <;> cases y <;> rfl
def RPairs (f : Int → Int → Bool) (ds : List Dat) (d : Dat) : Prop := ∃ a b : Bx, ds = [.t [vcd a.p0 (plusM a.p0 a.s0), vcd a.p1 (plusM a.p1 a.s1)], .t [vcd b.p0 (plusM b.p0 b.s0), vcd b.p1 (plusM b.p1 b.s1)]] ∧ Bz a ∧ Bz b ∧ d = .b (pairM f a b)
theorem BxSz.bz {b : Bx} (h : BxSz b) : Bz b := ⟨h.p0, h.p1, h.s0.mono (by decide), h.s1.mono (by decide)⟩
def RAxis (C : Addr) (ds : List Dat) (r : Res) : Prop := ∃ n : Int, ds = [.i n] ∧ (((decide (n = 0) || decide (n = 1)) = true ∧ r = .ok (.d .none)) ∨ ((decide (n = 0) || decide (n = 1)) = false ∧ r = .err C))
structure Bd where
  nm : Int
  bx : Bx
  ms : Int
  gr : F
  v0 : F
  v1 : F
abbrev bdD (b : Bd) : PyData := .tuple [.int b.nm, .tuple [fr b.bx.p0, fr b.bx.p1], .tuple [fr b.bx.s0, fr b.bx.s1], .int b.ms, fr b.gr, .tuple [fr b.v0, fr b.v1]]
structure BdOk (b : Bd) : Prop where
  bx : BxSz b.bx
  gr : PL.Ok 100 b.gr
  v0 : PL.Ok 1000 b.v0
  v1 : PL.Ok 1000 b.v1
structure Jt where
  a : Int
  b : Int
  k : Int
  lo : F
  hi : F
abbrev jtD (j : Jt) : PyData := .tuple [.int j.a, .int j.b, .int j.k, fr j.lo, fr j.hi]
structure JtOk (j : Jt) : Prop where
  lo : PL.Ok 3500 j.lo
  hi : PL.Ok 3500 j.hi
theorem ok_c4 : PL.Ok 3 ((4, 1) : F) := ⟨⟨by decide, by decide⟩, ⟨by decide, by decide⟩⟩
abbrev endD (b : Bx) : PyData := .tuple [vcd b.p0 (plusM b.p0 b.s0), vcd b.p1 (plusM b.p1 b.s1)]
def RBoxOf (ds : List Dat) (d : Dat) : Prop := ∃ b : Bd, ds = [.d (bdD b)] ∧ d = .d (bxd b.bx)
def soundM (b : Bd) : Bool := !(!b.bx.sized || (decide (b.ms < 0) || decide (1000 < b.ms))) && (!(decide (cmpM b.gr (0, 1) < 0) || decide (0 < cmpM b.gr (4, 1))) && (decide (0 < b.ms) || PyData.eqv (vcd b.v0 b.v1) (vcd (0, 1) (0, 1))))
def RSound (ds : List Dat) (d : Dat) : Prop := ∃ b : Bd, ds = [.d (bdD b)] ∧ BdOk b ∧ d = .b (soundM b)
def bad1 (bf : Int) (b : Bd) : Bool := decide (999999999 < b.nm) || (decide (b.nm ≤ bf) || !soundM b)
def badB : Int → List Bd → Bool
  | _, [] => false
  | bf, b :: bs => bad1 bf b || badB b.nm bs
def RBods (C : Addr) (ds : List Dat) (r : Res) : Prop := ∃ bs : List Bd, ds = [.t (bs.map bdD)] ∧ (∀ b ∈ bs, BdOk b) ∧ ((badB (-1) bs = false ∧ r = .ok (.d .none)) ∨ (badB (-1) bs = true ∧ r = .err C))
def ovB : List Bx → Bool
  | [] => false
  | b :: bs => bs.any (pairM lt0 b) || ovB bs
def ROvl (C : Addr) (ds : List Dat) (r : Res) : Prop := ∃ bs : List Bd, ds = [.t (bs.map bdD)] ∧ (∀ b ∈ bs, BdOk b) ∧ bs.length ≤ 100000 ∧ ((ovB (bs.map (·.bx)) = false ∧ r = .ok (.d .none)) ∨ (ovB (bs.map (·.bx)) = true ∧ r = .err C))
theorem drop_at {bs : List Bd} {i j : Nat} {y : Bd} (h : bs[i + j]? = some y) : at0 ((bs.map fun z => endD z.bx).drop i) j = endD y.bx := by
  unfold at0
  rw [List.getD_eq_getElem?_getD, List.getElem?_drop, List.getElem?_map, h]
  rfl
theorem s_lessN2 {K : PySem.W.Frag} {ρ ρ' : Rho} {I : Asn} {ts : TS} {k : Out} (e : ρ = ρ') (h : S K ts ρ' I k) : S K ts ρ I k := e ▸ h
def fnd (bs : List Bd) (n : Int) : Option Bd := bs.find? fun b => decide (b.nm = n)
theorem fnd_mem {bs : List Bd} {n : Int} {x : Bd} (h : fnd bs n = some x) : x ∈ bs := List.mem_of_find?_eq_some h
def plcM (bs : List Bd) : List (Key × PyData) := kvsOf (bs.map (·.nm)) (bs.map fun b => vcd b.bx.p0 b.bx.p1)
theorem plc_get {bs : List Bd} {n : Int} : valD (plcM bs) (.inl n) = (fnd bs n).map fun b => vcd b.bx.p0 b.bx.p1 := by
  induction bs with
  | nil => rfl
  | cons b bs ih =>
    show valD ((.inl b.nm, vcd b.bx.p0 b.bx.p1) :: plcM bs) (.inl n) = _
    unfold valD fnd at *
    by_cases c : b.nm = n
    · rw [List.find?_cons_of_pos (by simpa using c), List.find?_cons_of_pos (by simpa using c)]
      rfl
    · rw [List.find?_cons_of_neg (by simpa using c), List.find?_cons_of_neg (by simpa using c)]
      exact ih
def RPlaces (ds : List Dat) (d : Dat) : Prop := ∃ bs : List Bd, ds = [.t (bs.map bdD)] ∧ (bs.map (·.nm)).Nodup ∧ bs.length ≤ 100000 ∧ d = .k (plcM bs)
def wayM (x y : Bd) (k : Int) : F := if k = 0 then minusM y.bx.p0 x.bx.p0 else minusM y.bx.p1 x.bx.p1
theorem way_ok {x y : Bd} {k : Int} (hx : BdOk x) (hy : BdOk y) : PL.Ok 4000 (wayM x y k) := by
  unfold wayM
  split
  · exact (PL.ok_minus hy.bx.p0 hx.bx.p0).mono (by decide)
  · exact (PL.ok_minus hy.bx.p1 hx.bx.p1).mono (by decide)
def RWay (ds : List Dat) (d : Dat) : Prop := ∃ (bs : List Bd) (j : Jt) (x y : Bd), ds = [.k (plcM bs), .d (jtD j)] ∧ fnd bs j.a = some x ∧ fnd bs j.b = some y ∧ (j.k = 0 ∨ j.k = 1) ∧ BdOk x ∧ BdOk y ∧ d = .d (fr (wayM x y j.k))
def jbad (bs : List Bd) (j : Jt) : Bool := match fnd bs j.a, fnd bs j.b with
  | some x, some y => decide (j.a = j.b) || ((!(decide (j.k = 0) || decide (j.k = 1)) || decide (0 < cmpM j.lo j.hi)) || (decide (cmpM (wayM x y j.k) j.lo < 0) || decide (0 < cmpM (wayM x y j.k) j.hi)))
  | _, _ => true
theorem jbad_no {bs : List Bd} {j : Jt} (h : jbad bs j = false) : ∃ x y, fnd bs j.a = some x ∧ fnd bs j.b = some y ∧ j.a ≠ j.b ∧ ((j.k = 0 ∨ j.k = 1) ∧ (!(decide (j.k = 0) || decide (j.k = 1)) || decide (0 < cmpM j.lo j.hi)) = false) ∧ (decide (cmpM (wayM x y j.k) j.lo < 0) || decide (0 < cmpM (wayM x y j.k) j.hi)) = false := by
  unfold jbad at h
  cases e1 : fnd bs j.a with
  | none => rw [e1] at h; cases h
  | some x =>
    cases e2 : fnd bs j.b with
    | none => rw [e1, e2] at h; cases h
    | some y =>
      rw [e1, e2] at h
      have h : (decide (j.a = j.b) || ((!(decide (j.k = 0) || decide (j.k = 1)) || decide (0 < cmpM j.lo j.hi)) || (decide (cmpM (wayM x y j.k) j.lo < 0) || decide (0 < cmpM (wayM x y j.k) j.hi)))) = false := h
      rw [Bool.or_eq_false_iff, Bool.or_eq_false_iff] at h
      refine ⟨x, y, rfl, rfl, by simpa using h.1, ⟨?_, h.2.1⟩, h.2.2⟩
      have := h.2.1
      rw [Bool.or_eq_false_iff] at this
      exact Classical.or_iff_not_imp_left.mpr (by simpa using this.1)
def RJoint (C : Addr) (ds : List Dat) (r : Res) : Prop := ∃ (bs : List Bd) (j : Jt), ds = [.k (plcM bs), .d (jtD j)] ∧ (∀ b ∈ bs, BdOk b) ∧ JtOk j ∧ ((jbad bs j = false ∧ r = .ok (.d .none)) ∨ (jbad bs j = true ∧ r = .err C))
theorem jbad_yes {bs : List Bd} {a b k : Int} {lo hi : F} {x y : Bd} (fa : fnd bs a = some x) (fb : fnd bs b = some y) (h : jbad bs ⟨a, b, k, lo, hi⟩ = true) : (decide (a = b) || ((!(decide (k = 0) || decide (k = 1)) || decide (0 < cmpM lo hi)) || (decide (cmpM (wayM x y k) lo < 0) || decide (0 < cmpM (wayM x y k) hi)))) = true := by
  unfold jbad at h
  dsimp only at h
  rw [fa, fb] at h
  exact h
structure Sta where
  bs : List Bd
  js : List Jt
  u0 : F
  u1 : F
abbrev stD (s : Sta) : PyData := .tuple [.tuple (s.bs.map bdD), .tuple (s.js.map jtD), vcd s.u0 s.u1]
structure StaOk (s : Sta) : Prop where
  bs : ∀ b ∈ s.bs, BdOk b
  js : ∀ j ∈ s.js, JtOk j
  len : s.bs.length ≤ 100000
  u0 : PL.Ok 100 s.u0
  u1 : PL.Ok 100 s.u1
theorem badB_asc {bs : List Bd} : ∀ {bf : Int}, badB bf bs = false → (∀ b ∈ bs, bf < b.nm) ∧ (bs.map (·.nm)).Nodup := by
  induction bs with
  | nil => exact fun _ => ⟨fun b h => by simp at h, List.nodup_nil⟩
  | cons b bs ih =>
    intro bf h
    have h : (bad1 bf b || badB b.nm bs) = false := h
    rw [Bool.or_eq_false_iff] at h
    obtain ⟨i1, i2⟩ := ih h.2
    have h1 := h.1
    unfold bad1 at h1
    rw [Bool.or_eq_false_iff, Bool.or_eq_false_iff, decide_eq_false_iff_not, decide_eq_false_iff_not] at h1
    have lt : bf < b.nm := by omega
    refine ⟨fun y hy => ?_, ?_⟩
    · rcases List.mem_cons.mp hy with rfl | hy
      · exact lt
      · have := i1 y hy
        omega
    · rw [List.map_cons, List.nodup_cons]
      refine ⟨fun z => ?_, i2⟩
      obtain ⟨y, hy, e⟩ := List.mem_map.mp z
      have := i1 y hy
      omega
def largeM (s : Sta) : Bool := decide (24 < ((s.bs.length : Nat) : Int)) || decide (24 < ((s.js.length : Nat) : Int))
def chkM (s : Sta) : Nat := if largeM s = true then 1 else if badB (-1) s.bs = true then 2 else if ovB (s.bs.map (·.bx)) = true then 3 else if s.js.any (jbad s.bs) = true then 4 else 0
theorem chk_0 {s : Sta} (h : chkM s = 0) : largeM s = false ∧ badB (-1) s.bs = false ∧ ovB (s.bs.map (·.bx)) = false ∧ s.js.any (jbad s.bs) = false := by
  unfold chkM at h
  split at h
  · cases h
  split at h
  · cases h
  split at h
  · cases h
  split at h
  · cases h
  rename_i a b c d
  exact ⟨Bool.eq_false_iff.mpr a, Bool.eq_false_iff.mpr b, Bool.eq_false_iff.mpr c, Bool.eq_false_iff.mpr d⟩
theorem chk_1 {s : Sta} (h : chkM s = 1) : largeM s = true := by
  unfold chkM at h
  split at h
  · assumption
  split at h
  · cases h
  split at h
  · cases h
  split at h <;> cases h
theorem chk_2 {s : Sta} (h : chkM s = 2) : largeM s = false ∧ badB (-1) s.bs = true := by
  unfold chkM at h
  split at h
  · cases h
  split at h
  · rename_i a b
    exact ⟨Bool.eq_false_iff.mpr a, b⟩
  split at h
  · cases h
  split at h <;> cases h
theorem chk_3 {s : Sta} (h : chkM s = 3) : largeM s = false ∧ badB (-1) s.bs = false ∧ ovB (s.bs.map (·.bx)) = true := by
  unfold chkM at h
  split at h
  · cases h
  split at h
  · cases h
  split at h
  · rename_i a b c
    exact ⟨Bool.eq_false_iff.mpr a, Bool.eq_false_iff.mpr b, c⟩
  split at h <;> cases h
theorem chk_4 {s : Sta} (h : chkM s = 4) : largeM s = false ∧ badB (-1) s.bs = false ∧ ovB (s.bs.map (·.bx)) = false ∧ s.js.any (jbad s.bs) = true := by
  unfold chkM at h
  split at h
  · cases h
  split at h
  · cases h
  split at h
  · cases h
  split at h
  · rename_i a b c d
    exact ⟨Bool.eq_false_iff.mpr a, Bool.eq_false_iff.mpr b, Bool.eq_false_iff.mpr c, d⟩
  · cases h
def RChk (CL CB CO CJ : Addr) (ds : List Dat) (r : Res) : Prop := ∃ st : Sta, ds = [.d (stD st)] ∧ StaOk st ∧ ((chkM st = 0 ∧ r = .ok (.d .none)) ∨ (chkM st = 1 ∧ r = .err CL) ∨ (chkM st = 2 ∧ r = .err CB) ∨ (chkM st = 3 ∧ r = .err CO) ∨ (chkM st = 4 ∧ r = .err CJ))
theorem lt0_vl {x y : F} (hx : Nrm x) (hy : Nrm y) : lt0 (cmpM x y) 0 = decide (vl x < vl y) := by
  rw [← less_vl hx.1 hy.1, less_cmp]
  rfl
theorem gt0_vl {x y : F} (hx : Nrm x) (hy : Nrm y) : decide (0 < cmpM x y) = decide (vl y < vl x) := by
  rw [← less_vl hy.1 hx.1, ← more_cmp]
  rfl
theorem BxSz.nrm {b : Bx} (h : BxSz b) : Nrm b.p0 ∧ Nrm b.p1 ∧ Nrm b.s0 ∧ Nrm b.s1 := ⟨h.p0.nrm, h.p1.nrm, h.s0.nrm, h.s1.nrm⟩
theorem over_ax {pa sa pb sb : F} (h1 : Nrm pa) (h2 : Nrm sa) (h3 : Nrm pb) (h4 : Nrm sb) : (lt0 (cmpM pb (plusM pa sa)) 0 && lt0 (cmpM pa (plusM pb sb)) 0) = decide ((gapM pa sa pb sb).1 < 0) := by
  rw [lt0_vl h3 (plus_nrm h1 h2), lt0_vl h1 (plus_nrm h3 h4), vl_plus h1 h2, vl_plus h3 h4, Bool.eq_iff_iff, Bool.and_eq_true, decide_eq_true_iff, decide_eq_true_iff, decide_eq_true_iff, gap_iff h1 h2 h3 h4]
theorem over_due {a b : Bx} (ha : BxSz a) (hb : BxSz b) : pairM lt0 a b = (decide ((gapM a.p0 a.s0 b.p0 b.s0).1 < 0) && decide ((gapM a.p1 a.s1 b.p1 b.s1).1 < 0)) := by
  unfold pairM
  rw [over_ax ha.p0.nrm ha.s0.nrm hb.p0.nrm hb.s0.nrm, over_ax ha.p1.nrm ha.s1.nrm hb.p1.nrm hb.s1.nrm]
theorem _root_.FR.Sm.ok {D B k : Nat} {a : F} (h : Sm D B a) (hD : 0 < D) (hk : D < 2 ^ k) (hb : B * D < 2 ^ k) : PL.Ok k a := ⟨h.nrm, h.sz hD hk hb⟩
theorem sm_c0 {D B : Nat} : Sm D B (0, 1) := ⟨nrm_zero, ⟨0, by rw [vl_zero]; grind⟩, by rw [vl_zero]; have : ((0 : Int) : Rat) ≤ ((B : Int) : Rat) := Rat.intCast_le_intCast.mpr (by omega); grind, by rw [vl_zero]; have : ((0 : Int) : Rat) ≤ ((B : Int) : Rat) := Rat.intCast_le_intCast.mpr (by omega); grind⟩
theorem sm_lf {D B : Nat} {x y : Int} (hy : 0 < y) (hd : ((D : Int)) % y = 0) (hb : x.natAbs ≤ B * y.natAbs) : Sm D B (lf x y) := Sm.lf hy (Int.dvd_of_emod_eq_zero hd) hb
theorem part_sm {C : DS} {m : Nat} (h : DOk C) (hm : m ≤ 1000) : DOk (partM C (m : Nat)).2 ∧ Sm 6 (2 * m) (partM C (m : Nat)).1 := by
  obtain ⟨h1, h2, h3⟩ := take_ok (C := C) (m := 2 * ((m : Int) * 2) + 1) h (by omega)
  obtain ⟨h4, h5, h6⟩ := take_ok (C := (take C (2 * ((m : Int) * 2) + 1)).2) (m := 3) h1 (by omega)
  refine ⟨h4, sm_lf (by omega) ?_ ?_⟩
  · have e : (take (take C (2 * ((m : Int) * 2) + 1)).2 3).1 = 0 ∨ (take (take C (2 * ((m : Int) * 2) + 1)).2 3).1 = 1 ∨ (take (take C (2 * ((m : Int) * 2) + 1)).2 3).1 = 2 := by omega
    rcases e with e | e | e <;> rw [e] <;> decide
  · have : ((take C (2 * ((m : Int) * 2) + 1)).1 - (m : Int) * 2).natAbs ≤ 2 * m := by omega
    have e : 1 ≤ (1 + (take (take C (2 * ((m : Int) * 2) + 1)).2 3).1).natAbs := by omega
    exact Nat.le_trans this (Nat.le_mul_of_pos_right _ e)
theorem vec_sm {C : DS} {m : Nat} (h : DOk C) (hm : m ≤ 1000) : DOk (vecM C (m : Nat)).2 ∧ Sm 6 (2 * m) (vecM C (m : Nat)).1.1 ∧ Sm 6 (2 * m) (vecM C (m : Nat)).1.2 :=
  ⟨(part_sm (part_sm h hm).1 hm).1, (part_sm h hm).2, (part_sm (part_sm h hm).1 hm).2⟩
theorem size_sm {C : DS} (ok : DOk C) : DOk (sizeM C).2 ∧ Sm 2 6 (sizeM C).1.1 ∧ Sm 2 6 (sizeM C).1.2 ∧ 0 < (sizeM C).1.1.1 ∧ 0 < (sizeM C).1.2.1 := by
  obtain ⟨o1, a1, a2⟩ := take_ok (C := C) (m := 6) ok (by decide)
  obtain ⟨o2, b1, b2⟩ := take_ok (C := (take C 6).2) (m := 2) o1 (by decide)
  obtain ⟨o3, c1, c2⟩ := take_ok (C := (take (take C 6).2 2).2) (m := 6) o2 (by decide)
  obtain ⟨o4, e1, e2⟩ := take_ok (C := (take (take (take C 6).2 2).2 6).2) (m := 2) o3 (by decide)
  obtain ⟨_, _, _, u0, u1⟩ := size_ok ok
  have key : ∀ x y : Int, 0 ≤ x → x < 6 → 0 ≤ y → y < 2 → Sm 2 6 (lf (1 + x) (1 + y)) := fun x y h1 h2 h3 h4 => by
    refine sm_lf (by omega) ?_ ?_
    · have e : y = 0 ∨ y = 1 := by omega
      rcases e with rfl | rfl <;> decide
    · have e : 1 ≤ (1 + y).natAbs := by omega
      exact Nat.le_trans (show (1 + x).natAbs ≤ 6 by omega) (Nat.le_mul_of_pos_right _ e)
  exact ⟨o4, key _ _ a1 a2 b1 b2, key _ _ c1 c2 e1 e2, u0, u1⟩
structure BN (n : Nat) (b : Bx) : Prop where
  p0 : Sm 6 n b.p0
  p1 : Sm 6 n b.p1
  s0 : Sm 2 6 b.s0
  s1 : Sm 2 6 b.s1
structure B20 (b : Bx) : Prop where
  p0 : PL.Ok 20 b.p0
  p1 : PL.Ok 20 b.p1
  s0 : PL.Ok 20 b.s0
  s1 : PL.Ok 20 b.s1
theorem BN.mono {m n : Nat} {b : Bx} (h : BN m b) (hm : m ≤ n) : BN n b := ⟨h.p0.up hm, h.p1.up hm, h.s0, h.s1⟩
theorem BN.o {n : Nat} {b : Bx} (h : BN n b) (hn : n ≤ 10000) : B20 b := ⟨h.p0.ok (by decide) (by decide) (by omega), h.p1.ok (by decide) (by decide) (by omega), h.s0.ok (by decide) (by decide) (by decide), h.s1.ok (by decide) (by decide) (by decide)⟩
theorem BN.sz {n : Nat} {b : Bx} (h : BN n b) (hn : n ≤ 10000) : BxSz b := ⟨(h.o hn).p0.mono (by decide), (h.o hn).p1.mono (by decide), (h.o hn).s0.mono (by decide), (h.o hn).s1.mono (by decide)⟩
theorem BN.h0 {n : Nat} {b : Bx} (h : BN n b) : Sm 6 (n + 6) (plusM b.p0 b.s0) := h.p0.plus (h.s0.mono (by decide) (Nat.le_refl _))
theorem BN.h1 {n : Nat} {b : Bx} (h : BN n b) : Sm 6 (n + 6) (plusM b.p1 b.s1) := h.p1.plus (h.s1.mono (by decide) (Nat.le_refl _))
def RBesideG (ds : List Dat) (C : DS) (d : Dat) (C' : DS) : Prop := ∃ (n : Nat) (b : Bx) (s0 s1 : F), ds = [.d (bxd b), .t [fr s0, fr s1]] ∧ n ≤ 1000 ∧ DOk C ∧ BN n b ∧ Sm 2 6 s0 ∧ Sm 2 6 s1 ∧ d = .t [fr (besideM C b s0 s1).1.1, fr (besideM C b s0 s1).1.2] ∧ C' = (besideM C b s0 s1).2
theorem besideN_ok {n : Nat} {C : DS} {b : Bx} {s0 s1 : F} (ok : DOk C) (hb : BN n b) (h0 : Sm 2 6 s0) (h1 : Sm 2 6 s1) : DOk (besideM C b s0 s1).2 ∧ Sm 6 (n + 6) (besideM C b s0 s1).1.1 ∧ Sm 6 (n + 6) (besideM C b s0 s1).1.2 := by
  obtain ⟨o1, k1, k2⟩ := take_ok (C := C) (m := 2) ok (by decide)
  obtain ⟨o2, px⟩ := part_sm (C := (take C 2).2) (m := 2) o1 (by decide)
  obtain ⟨o3, py⟩ := part_sm (C := (partM (take C 2).2 2).2) (m := 2) o2 (by decide)
  obtain ⟨o4, u1, u2⟩ := take_ok (C := (partM (partM (take C 2).2 2).2 2).2) (m := 2) o3 (by decide)
  obtain ⟨o5, t1, t2⟩ := take_ok (C := (take (partM (partM (take C 2).2 2).2 2).2 2).2) (m := 4) o4 (by decide)
  replace px : Sm 6 4 (partM (take C 2).2 2).1 := px
  replace py : Sm 6 4 (partM (partM (take C 2).2 2).2 2).1 := py
  have a0 : Sm 6 (n + 6) (plusM b.p0 b.s0) := hb.h0
  have a1 : Sm 6 (n + 6) (plusM b.p1 b.s1) := hb.h1
  have m0 : Sm 6 (n + 6) (lminus b.p0 s0) := by rw [lminus_eq hb.p0.nrm h0.nrm]; exact hb.p0.minus (h0.mono (by decide) (Nat.le_refl _))
  have m1 : Sm 6 (n + 6) (lminus b.p1 s1) := by rw [lminus_eq hb.p1.nrm h1.nrm]; exact hb.p1.minus (h1.mono (by decide) (Nat.le_refl _))
  have q0 : Sm 6 (n + 6) (lplus b.p0 (partM (take C 2).2 2).1) := by rw [lplus_eq hb.p0.nrm px.nrm]; exact (hb.p0.plus px).up (by omega)
  have q1 : Sm 6 (n + 6) (lplus b.p1 (partM (partM (take C 2).2 2).2 2).1) := by rw [lplus_eq hb.p1.nrm py.nrm]; exact (hb.p1.plus py).up (by omega)
  have r0 : Sm 6 (n + 6) b.p0 := hb.p0.up (by omega)
  have r1 : Sm 6 (n + 6) b.p1 := hb.p1.up (by omega)
  unfold besideM
  dsimp only
  split
  · refine ⟨o5, ?_, ?_⟩
    · show Sm _ _ (if _ then _ else _)
      split
      · exact a0
      · exact m0
    · show Sm _ _ (if _ then _ else _)
      split
      · exact r1
      · exact q1
  · refine ⟨o5, ?_, ?_⟩
    · show Sm _ _ (if _ then _ else _)
      split
      · exact r0
      · exact q0
    · show Sm _ _ (if _ then _ else _)
      split
      · exact a1
      · exact m1
/-- a new box beside one of bs -/
def RBoxN (K : PySem.W.Frag) (ds : List Dat) (C : DS) (Z : Asn) (Po : Dat → DS → Prop) : Prop := ∃ (n : Nat) (bs : List Bx), DOk C ∧ (10 ≤ n ∧ n ≤ 1000) ∧ (∀ b ∈ bs, BN n b) ∧ bs.length ≤ 1000 ∧ ((ds = [.d (.list (bs.map fun b => bxd b))] ∧ Z = .tt) ∨ ∃ q, ds = [.r q] ∧ Z = lA K q (bs.map fun b => bxd b)) ∧
  Po = fun d C' => DOk C' ∧ ∃ b, d = .d (bxd b) ∧ BN (n + 6) b ∧ b.sized = true
theorem s_retZ {K : PySem.W.Frag} {ρ : Rho} {I J Z : Asn} {ts : TS} {d : Dat} {p : Addr} {C' : DS} {Po : Dat → DS → Prop} (h : S K ts ρ I (.rt d (dJ K p C' (Z.and J)))) (po : Po d C') : S K ts ρ I (outN K p J Po) := s_ofRt h fun v G H gh j dv => ⟨d, C', po, ⟨j.1, j.2.2⟩, dv⟩
theorem e_varM {K : PySem.W.Frag} {ρ : Rho} {I : Asn} {i : Nat} {d : Dat} (h : ρ[i]? = some (some d)) : PL.E K (tVar i) ρ I d I := e_var h
structure BdM (n : Nat) (b : Bd) : Prop where
  bx : BN n b.bx
  sz : b.bx.sized = true
  gr : Sm 2 2 b.gr
  v0 : Sm 6 6 b.v0
  v1 : Sm 6 6 b.v1
  ms : b.ms ≤ 4
theorem BdM.mono {m n : Nat} {b : Bd} (h : BdM m b) (hm : m ≤ n) : BdM n b := ⟨h.bx.mono hm, h.sz, h.gr, h.v0, h.v1, h.ms⟩
theorem BdM.ok {n : Nat} {b : Bd} (h : BdM n b) (hn : n ≤ 10000) : BdOk b := ⟨h.bx.sz hn, h.gr.ok (by decide) (by decide) (by decide), h.v0.ok (by decide) (by decide) (by decide), h.v1.ok (by decide) (by decide) (by decide)⟩
structure BSt where
  bs : List Bd
  nm : Int
  C : DS
def BSt.W (i : Nat) (a : BSt) : Prop := DOk a.C ∧ a.bs.length ≤ i ∧ (0 < i → a.bs ≠ []) ∧ (∀ b ∈ a.bs, BdM (10 + 6 * i) b ∧ b.nm < a.nm) ∧ 0 ≤ a.nm ∧ a.nm ≤ 2 + 3 * (i : Nat) ∧ badB (-1) a.bs = false ∧ ovB (a.bs.map (·.bx)) = false
/-- bodies as the law draws them -/
structure BsN (m : Nat) (bs : List Bd) : Prop where
  ok : ∀ b ∈ bs, BdM (10 + 6 * m) b
  len : bs.length ≤ m
  ne : 0 < m → bs ≠ []
  bad : badB (-1) bs = false
  ov : ovB (bs.map (·.bx)) = false
  nm : ∀ b ∈ bs, b.nm ≤ 92
def RBodiesN (ds : List Dat) (C : DS) (Z : Asn) (Po : Dat → DS → Prop) : Prop := ∃ (many : Nat) (fixed : Int), ds = [.i (many : Nat), .i fixed] ∧ many ≤ 30 ∧ DOk C ∧ Z = .tt ∧ Po = fun d C' => DOk C' ∧ ∃ bs, d = .t (bs.map bdD) ∧ BsN many bs
theorem pair_comm (f : Int → Int → Bool) (a b : Bx) : pairM f a b = pairM f b a := by
  unfold pairM
  rw [Bool.and_comm (f (cmpM b.p0 _) 0), Bool.and_comm (f (cmpM b.p1 _) 0)]
theorem badB_snoc {x : Bd} : ∀ {bs : List Bd} {bf : Int}, badB bf bs = false → (∀ o ∈ bs, o.nm < x.nm) → bf < x.nm → x.nm ≤ 999999999 → soundM x = true → badB bf (bs ++ [x]) = false
  | [], bf, _, _, h2, h3, h4 => by
    show (bad1 bf x || false) = false
    unfold bad1
    rw [decide_eq_false (by omega), decide_eq_false (by omega), h4]
    rfl
  | o :: bs, bf, h, h1, h2, h3, h4 => by
    have h : (bad1 bf o || badB o.nm bs) = false := h
    rw [Bool.or_eq_false_iff] at h
    show (bad1 bf o || badB o.nm (bs ++ [x])) = false
    rw [h.1, badB_snoc h.2 (fun z hz => h1 z (List.mem_cons_of_mem _ hz)) (h1 o List.mem_cons_self) h3 h4]
    rfl
theorem ovB_snoc {x : Bx} : ∀ {bs : List Bx}, ovB bs = false → (∀ o ∈ bs, pairM lt0 o x = false) → ovB (bs ++ [x]) = false
  | [], _, _ => rfl
  | o :: bs, h, h1 => by
    have h : (bs.any (pairM lt0 o) || ovB bs) = false := h
    rw [Bool.or_eq_false_iff] at h
    show ((bs ++ [x]).any (pairM lt0 o) || ovB (bs ++ [x])) = false
    rw [List.any_append, h.1, ovB_snoc h.2 fun z hz => h1 z (List.mem_cons_of_mem _ hz)]
    show (false || (pairM lt0 o x || false) || false) = false
    rw [h1 o List.mem_cons_self]
    rfl
abbrev gripsD : List PyData := [fr (0, 1), fr (1, 2), fr (1, 1), fr (2, 1), fr (0, 1)]
theorem grip_at {t : Int} (h0 : 0 ≤ t) (h1 : t < 5) : ∃ g : F, atI gripsD t = some (fr g) ∧ Sm 2 2 g ∧ (decide (cmpM g (0, 1) < 0) || decide (0 < cmpM g (4, 1))) = false := by
  have e : t = 0 ∨ t = 1 ∨ t = 2 ∨ t = 3 ∨ t = 4 := by omega
  have h : ∀ x y : Int, 0 < y → (2 : Int) % y = 0 → x.natAbs ≤ 2 * y.natAbs → lf x y = (x, y) → Sm 2 2 (x, y) := fun x y a b c d => by rw [← d]; exact sm_lf a b c
  rcases e with rfl | rfl | rfl | rfl | rfl
  · exact ⟨(0, 1), rfl, sm_c0, by decide⟩
  · exact ⟨(1, 2), rfl, h 1 2 (by decide) (by decide) (by decide) (by decide +kernel), by decide⟩
  · exact ⟨(1, 1), rfl, h 1 1 (by decide) (by decide) (by decide) (by decide +kernel), by decide⟩
  · exact ⟨(2, 1), rfl, h 2 1 (by decide) (by decide) (by decide) (by decide +kernel), by decide⟩
  · exact ⟨(0, 1), rfl, sm_c0, by decide⟩
theorem eqv_int (a b : Int) : PyData.eqv (.int a) (.int b) = decide (a = b) := by
  simp only [PyData.eqv]
  by_cases c : a = b
  · rw [decide_eq_true c]
    exact beq_iff_eq.mpr c
  · rw [decide_eq_false c]
    exact beq_false_of_ne c
structure JtN (j : Jt) : Prop where
  lo : Sm 6 802 j.lo
  hi : Sm 6 802 j.hi
  k : j.k = 0 ∨ j.k = 1
structure JSt where
  js : List Jt
  C : DS
def JSt.W (bs : List Bd) (i : Nat) (a : JSt) : Prop := DOk a.C ∧ a.js.length ≤ i ∧ (∀ j ∈ a.js, JtN j) ∧ a.js.any (jbad bs) = false
structure JsN (m : Nat) (bs : List Bd) (js : List Jt) : Prop where
  len : js.length ≤ m
  ok : ∀ j ∈ js, JtN j
  good : js.any (jbad bs) = false
def RJointsN (ds : List Dat) (C : DS) (Z : Asn) (Po : Dat → DS → Prop) : Prop := ∃ (bs : List Bd) (many : Nat), ds = [.t (bs.map bdD), .i (many : Nat)] ∧ many ≤ 30 ∧ bs ≠ [] ∧ bs.length ≤ 1000 ∧ (∀ b ∈ bs, BdM 400 b) ∧ (bs.map (·.nm)).Nodup ∧ DOk C ∧ Z = .tt ∧ Po = fun d C' => DOk C' ∧ ∃ js, d = .t (js.map jtD) ∧ JsN many bs js
theorem fnd_of {bs : List Bd} {x : Bd} (nd : (bs.map (·.nm)).Nodup) (hx : x ∈ bs) : fnd bs x.nm = some x := by
  induction bs with
  | nil => simp at hx
  | cons b bs ih =>
    rw [List.map_cons, List.nodup_cons] at nd
    unfold fnd
    rcases List.mem_cons.mp hx with rfl | h
    · rw [List.find?_cons_of_pos (by simp)]
    · rw [List.find?_cons_of_neg (by
        simp only [decide_eq_true_eq]
        intro e
        exact nd.1 (e ▸ List.mem_map.mpr ⟨x, h, rfl⟩))]
      exact ih nd.2 h
theorem frac_in {t s : Int} (h0 : 0 ≤ t) (h1 : t < 3) (h2 : 0 ≤ s) (h3 : s < 2) : Sm 2 2 (lf t (1 + s)) ∧ 0 ≤ vl (lf t (1 + s)) := by
  have o : Sm 2 2 (lf t (1 + s)) := sm_lf (by omega) (by
    have e2 : s = 0 ∨ s = 1 := by omega
    rcases e2 with rfl | rfl <;> decide) (by
    have e : 1 ≤ (1 + s).natAbs := by omega
    exact Nat.le_trans (show t.natAbs ≤ 2 by omega) (Nat.le_mul_of_pos_right _ e))
  refine ⟨o, ?_⟩
  have e : ¬ (lf t (1 + s)).1 < 0 := by
    have e1 : t = 0 ∨ t = 1 ∨ t = 2 := by omega
    have e2 : s = 0 ∨ s = 1 := by omega
    rcases e1 with rfl | rfl | rfl <;> rcases e2 with rfl | rfl <;> decide +kernel
  have : ¬ vl (lf t (1 + s)) < 0 := fun z => e ((vl_neg o.nrm.1).mp z)
  grind
theorem jgood {bs : List Bd} {x y : Bd} {k : Int} {u v : F} (fx : fnd bs x.nm = some x) (fy : fnd bs y.nm = some y) (c : x.nm ≠ y.nm) (hk : k = 0 ∨ k = 1) (hW : Nrm (wayM x y k)) (nu : Nrm u) (hu : 0 ≤ vl u) (nv : Nrm v) (hv : 0 ≤ vl v) :
    jbad bs ⟨x.nm, y.nm, k, lminus (wayM x y k) u, lplus (wayM x y k) v⟩ = false := by
  unfold jbad
  dsimp only
  rw [fx, fy]
  dsimp only
  generalize wayM x y k = W at *
  rw [lminus_eq hW nu, lplus_eq hW nv]
  have n1 := minus_nrm hW nu
  have n2 := plus_nrm hW nv
  have e1 := vl_minus hW nu
  have e2 := vl_plus hW nv
  have l1 : decide (0 < cmpM (minusM W u) (plusM W v)) = false := by rw [gt0_vl n1 n2, decide_eq_false_iff_not]; grind
  have l2 : decide (cmpM W (minusM W u) < 0) = false := by
    show lt0 _ 0 = false
    rw [lt0_vl hW n1, decide_eq_false_iff_not]
    grind
  have l3 : decide (0 < cmpM W (plusM W v)) = false := by rw [gt0_vl hW n2, decide_eq_false_iff_not]; grind
  rw [l1, l2, l3, decide_eq_false c]
  rcases hk with rfl | rfl <;> rfl
structure StN (m : Nat) (s : Sta) : Prop where
  bs : BsN m s.bs
  js : JsN 2 s.bs s.js
  u0 : Sm 2 2 s.u0
  u1 : Sm 2 2 s.u1
theorem StN.good {m : Nat} {s : Sta} (h : StN m s) (hm : m ≤ 24) : chkM s = 0 := by
  have l1 := h.bs.len
  have l2 := h.js.len
  unfold chkM largeM
  rw [decide_eq_false (by omega), decide_eq_false (by omega), h.bs.bad, h.bs.ov, h.js.good]
  rfl
def RMoving (ds : List Dat) (d : Dat) : Prop := ∃ b : Bd, ds = [.d (bdD b)] ∧ d = .b (decide (0 < b.ms))
/-- pushes: names and vectors -/
abbrev Pu := Int × (F × F)
def movM (bs : List Bd) : List (Key × PyData) := PL.kvsOf (bs.map (·.nm)) (bs.map fun b => .bool (decide (0 < b.ms)))
def movB (bs : List Bd) (n : Int) : Bool := ((fnd bs n).map fun b => decide (0 < b.ms)).getD false
theorem mov_get {bs : List Bd} {n : Int} : (valD (movM bs) (.inl n)).getD (.bool false) = .bool (movB bs n) := by
  have e : valD (movM bs) (.inl n) = (fnd bs n).map fun b => PyData.bool (decide (0 < b.ms)) := by
    induction bs with
    | nil => rfl
    | cons b bs ih =>
      show valD ((.inl b.nm, .bool (decide (0 < b.ms))) :: movM bs) (.inl n) = _
      unfold valD fnd at *
      by_cases c : b.nm = n
      · rw [List.find?_cons_of_pos (by simpa using c), List.find?_cons_of_pos (by simpa using c)]
        rfl
      · rw [List.find?_cons_of_neg (by simpa using c), List.find?_cons_of_neg (by simpa using c)]
        exact ih
  rw [e]
  unfold movB
  cases fnd bs n <;> rfl
def badN (bs : List Bd) : Int → List Int → Bool
  | _, [] => false
  | bf, z :: rest => (decide (z ≤ bf) || !movB bs z) || badN bs z rest
def RMovN (ds : List Dat) (d : Dat) : Prop := ∃ (bs : List Bd) (ns : List Int), ds = [.t (bs.map bdD), .d (.list (ns.map PyData.int))] ∧ (bs.map (·.nm)).Nodup ∧ bs.length ≤ 100000 ∧ d = .b (!badN bs (-1) ns)
abbrev kps (ps : List Pu) : List (Int × PyData) := ps.map fun z => (z.1, vcd z.2.1 z.2.2)
theorem range_get {α : Type} (d : α) : ∀ xs : List α, (List.range xs.length).map (fun j => xs.getD j d) = xs
  | [] => rfl
  | x :: xs => by
    rw [List.length_cons, List.range_succ_eq_map, List.map_cons, List.map_map]
    have := range_get d xs
    show x :: (List.range xs.length).map (fun j => xs.getD j d) = _
    rw [this]
theorem row_get {α : Type} (d : α) (q : α → Bool) (f : α → PyData) (xs : List α) : rowK (fun j => q (xs.getD j d)) (fun j => f (xs.getD j d)) xs.length = (xs.filter q).map f := by
  have e := range_get d xs
  unfold rowK
  conv => rhs; rw [← e]
  rw [List.filter_map, List.map_map]
  rfl
theorem e_iwn {K : PySem.W.Frag} {wi : TI} {ρ : Rho} {I J : Asn} {n m : Nat} {xs : Nat → PyData} (h : IW K wi ρ I n xs J) (e : n = m) : IW K wi ρ I m xs J := e ▸ h
/-! ### meetings -/
theorem badB_lt : ∀ {bs : List Bd} {bf : Int}, badB bf bs = false → (bs.map (·.nm)).Pairwise (· < ·)
  | [], _, _ => .nil
  | b :: bs, bf, h => by
    have h2 : badB b.nm bs = false := (Bool.or_eq_false_iff.mp h).2
    rw [List.map_cons]
    refine .cons (fun n hn => ?_) (badB_lt h2)
    obtain ⟨c, hc, rfl⟩ := List.mem_map.mp hn
    exact (badB_asc h2).1 c hc
theorem badN_of {bs : List Bd} : ∀ {ns : List Int} {bf : Int}, ns.Pairwise (· < ·) → (∀ n ∈ ns, bf < n) → (∀ n ∈ ns, movB bs n = true) → badN bs bf ns = false
  | [], _, _, _, _ => rfl
  | n :: ns, bf, h, h1, h2 => by
    rw [List.pairwise_cons] at h
    show ((decide (n ≤ bf) || !movB bs n) || badN bs n ns) = false
    rw [decide_eq_false (by have := h1 n List.mem_cons_self; omega), h2 n List.mem_cons_self, badN_of h.2 h.1 fun m hm => h2 m (List.mem_cons_of_mem _ hm)]
    rfl
structure PSt where
  ps : List Pu
  C : DS
def mvN (bs : List Bd) : List Int := (bs.filter fun b => decide (0 < b.ms)).map (·.nm)
def PSt.W (bs : List Bd) (i : Nat) (a : PSt) : Prop := DOk a.C ∧ a.ps.length ≤ i ∧ (∀ z ∈ a.ps, Sm 6 8 z.2.1 ∧ Sm 6 8 z.2.2) ∧ (a.ps.map (·.1)).Sublist (mvN (bs.take i))
/-! ### insertion -/
/-! ### pairs -/
abbrev lkD (l : Int × Int) : PyData := .tuple [.int l.1, .int l.2]
theorem asc_nodup {ns : List Int} (h : ns.Pairwise (· < ·)) : ns.Nodup := h.imp fun h z => by rw [z] at h; exact absurd h (Int.lt_irrefl _)
theorem kvF_congr {ns : List Int} {f g : Int → PyData} (h : ∀ x ∈ ns, f x = g x) : kvF ns f = kvF ns g := List.map_congr_left fun x hx => by rw [h x hx]
theorem grp_id {ns : List Int} {x : Int} (nd : ns.Nodup) (hx : x ∈ ns) : PM.grp ns id x = [x] := by
  induction ns with
  | nil => simp at hx
  | cons n ns ih =>
    rw [List.nodup_cons] at nd
    unfold PM.grp
    rcases List.mem_cons.mp hx with rfl | h
    · rw [List.filter_cons_of_pos (by simp)]
      congr 1
      rw [List.filter_eq_nil_iff]
      intro y hy e
      have e : y = x := of_decide_eq_true e
      exact nd.1 (e ▸ hy)
    · rw [List.filter_cons_of_neg (by
        intro e
        have e : n = x := of_decide_eq_true e
        exact nd.1 (e ▸ h))]
      exact ih nd.2 h
theorem nodup_len_le : ∀ {l D : List Int}, l.Nodup → (∀ x ∈ l, x ∈ D) → l.length ≤ D.length
  | [], _, _, _ => Nat.zero_le _
  | x :: l, D, hn, hs => by
    obtain ⟨h1, h2⟩ := List.nodup_cons.mp hn
    have hx := hs x List.mem_cons_self
    have ih := nodup_len_le (l := l) (D := D.erase x) h2 fun y hy => (List.mem_erase_of_ne (fun e : y = x => h1 (e ▸ hy))).2 (hs y (List.mem_cons_of_mem _ hy))
    rw [List.length_erase_of_mem hx] at ih
    have := List.length_pos_of_mem hx
    rw [List.length_cons]
    omega
def RLinked (ds : List Dat) (d : Dat) : Prop := ∃ (ns : List Int) (ls : List (Int × Int)), ds = [.d (.list (ns.map PyData.int)), .d (.list (ls.map lkD))] ∧ ns.Pairwise (· < ·) ∧ (∀ l ∈ ls, l.1 ∈ ns ∧ l.2 ∈ ns) ∧ ns.length ≤ 24 ∧ d = .t ((PM.grps ns (PM.cls ls id)).map tupI)
theorem badB_up : ∀ {bs : List Bd} {bf : Int}, badB bf bs = false → (bs.map (·.nm)).Pairwise (· < ·)
  | [], _, _ => List.Pairwise.nil
  | b :: bs, bf, h => by
    have h : (bad1 bf b || badB b.nm bs) = false := h
    rw [Bool.or_eq_false_iff] at h
    rw [List.map_cons, List.pairwise_cons]
    refine ⟨fun y hy => ?_, badB_up h.2⟩
    obtain ⟨z, hz, rfl⟩ := List.mem_map.mp hy
    exact (badB_asc h.2).1 z hz
structure Gd (s : Sta) : Prop where
  ok : StaOk s
  good : chkM s = 0
  bs : ∀ b ∈ s.bs, BdM 400 b
  js : ∀ j ∈ s.js, JtN j
abbrev nmsM (s : Sta) : List Int := s.bs.map (·.nm)
abbrev lksM (s : Sta) : List (Int × Int) := s.js.map fun j => (j.a, j.b)
theorem Gd.up {s : Sta} (h : Gd s) : (nmsM s).Pairwise (· < ·) := badB_up (chk_0 h.good).2.1
theorem Gd.len {s : Sta} (h : Gd s) : s.bs.length ≤ 24 ∧ s.js.length ≤ 24 := by
  have h1 := (chk_0 h.good).1
  unfold largeM at h1
  rw [Bool.or_eq_false_iff, decide_eq_false_iff_not, decide_eq_false_iff_not] at h1
  omega
theorem fnd_nm {bs : List Bd} {n : Int} {x : Bd} (h : fnd bs n = some x) : x.nm = n := by
  have := List.find?_some h
  simpa using this
theorem Gd.jt {s : Sta} (h : Gd s) {j : Jt} (hj : j ∈ s.js) : jbad s.bs j = false := by
  have h4 := (chk_0 h.good).2.2.2
  rw [List.any_eq_false] at h4
  exact Bool.eq_false_iff.mpr (h4 j hj)
theorem Gd.ends {s : Sta} (h : Gd s) : ∀ l ∈ lksM s, l.1 ∈ nmsM s ∧ l.2 ∈ nmsM s := by
  intro l hl
  obtain ⟨j, hj, rfl⟩ := List.mem_map.mp hl
  obtain ⟨x, y, fa, fb, _⟩ := jbad_no (h.jt hj)
  exact ⟨List.mem_map.mpr ⟨x, fnd_mem fa, fnd_nm fa⟩, List.mem_map.mpr ⟨y, fnd_mem fb, fnd_nm fb⟩⟩
def limbsM (s : Sta) : PyData := .tuple ((PM.grps (nmsM s) (PM.cls (lksM s) id)).map tupI)
def RLimbs (ds : List Dat) (r : Res) : Prop := ∃ st : Sta, ds = [.d (stD st)] ∧ Gd st ∧ r = .ok (.d (limbsM st))
/-! limits -/
abbrev FEd := Int × Int × F
abbrev feD (e : FEd) : PyData := .tuple [.int e.1, .int e.2.1, fr e.2.2]
def posK (b : Bd) (k : Int) : F := if k = 0 then b.bx.p0 else b.bx.p1
def jE (k : Int) (j : Jt) : List FEd := if j.k = k then [(j.a, j.b, j.hi), (j.b, j.a, minusM (0, 1) j.lo)] else []
theorem jE_len (k : Int) (j : Jt) : (jE k j).length ≤ 2 := by
  unfold jE
  split
  · exact Nat.le_refl _
  · exact Nat.zero_le _
def fixM (s : Sta) : List Bd := s.bs.filter fun b => !decide (0 < b.ms)
def chF (k : Int) : List Bd → List FEd
  | a :: b :: xs => (a.nm, b.nm, minusM (posK b k) (posK a k)) :: (b.nm, a.nm, minusM (0, 1) (minusM (posK b k) (posK a k))) :: chF k (b :: xs)
  | _ => []
theorem chF_len {k : Int} : ∀ {xs : List Bd}, (chF k xs).length = 2 * (xs.length - 1)
  | [] => rfl
  | [_] => rfl
  | a :: b :: xs => by
    unfold chF
    rw [List.length_cons, List.length_cons, chF_len (xs := b :: xs)]
    simp only [List.length_cons]
    omega
theorem chF_take {k : Int} : ∀ {xs : List Bd} {i : Nat} {x y : Bd}, xs[i]? = some x → xs[i + 1]? = some y → (chF k xs).take (2 * (i + 1)) = (chF k xs).take (2 * i) ++ [(x.nm, y.nm, minusM (posK y k) (posK x k)), (y.nm, x.nm, minusM (0, 1) (minusM (posK y k) (posK x k)))]
  | [], _, _, _, h, _ => by simp at h
  | [_], _, _, _, _, h => by simp at h
  | a :: b :: xs, i, x, y, h1, h2 => by
    cases i with
    | zero =>
      obtain rfl : a = x := by simpa using h1
      obtain rfl : b = y := by simpa using h2
      unfold chF
      rfl
    | succ i =>
      have ih := chF_take (k := k) (xs := b :: xs) (i := i) (x := x) (y := y) (by simpa using h1) (by simpa using h2)
      unfold chF
      rw [show 2 * (i + 1 + 1) = 2 * (i + 1) + 1 + 1 by omega, List.take_succ_cons, List.take_succ_cons, ih, show 2 * (i + 1) = 2 * i + 1 + 1 by omega, List.take_succ_cons, List.take_succ_cons]
      rfl
def bndM (s : Sta) (k : Int) : List FEd := s.js.flatMap (jE k) ++ chF k (fixM s)
def bd0 : Bd := ⟨0, ⟨(0, 1), (0, 1), (0, 1), (0, 1)⟩, 0, (0, 1), (0, 1), (0, 1)⟩
theorem pos_at {b : Bd} {k : Int} (hk : k = 0 ∨ k = 1) : atI [fr b.bx.p0, fr b.bx.p1] k = some (fr (posK b k)) := by
  rcases hk with rfl | rfl <;> rfl
theorem okp {b : Bd} {k : Int} (hk : k = 0 ∨ k = 1) (h : BN 400 b.bx) : Sm 6 400 (posK b k) := by
  unfold posK
  split
  · exact h.p0
  · exact h.p1
theorem JtN.okl {j : Jt} (h : JtN j) : PL.Ok 20 j.lo := h.lo.ok (by decide) (by decide) (by decide)
def RBounds (ds : List Dat) (d : Dat) : Prop := ∃ (st : Sta) (k : Int), ds = [.d (stD st), .i k] ∧ Gd st ∧ (k = 0 ∨ k = 1) ∧ d = .d (.list ((bndM st k).map feD))
/-! the most that a difference can be -/
def iv (D : Nat) (a : F) : Int := a.1 * ((D : Int) / a.2)
theorem iv_vl {D B : Nat} {a : F} (h : Sm D B a) : ((iv D a : Int) : Rat) = vl a * ((D : Int) : Rat) := by
  obtain ⟨k, e⟩ := h.dvd
  have p := h.nrm.1
  have q := FR.cpos p
  unfold iv
  rw [e, Int.mul_ediv_cancel_left _ (by omega)]
  unfold vl
  rw [Rat.intCast_mul, Rat.intCast_mul]
  grind
theorem iv_plus {D A B : Nat} {a b : F} (ha : Sm D A a) (hb : Sm D B b) : iv D (plusM a b) = iv D a + iv D b := by
  refine Rat.intCast_inj.mp ?_
  rw [iv_vl (ha.plus hb), Rat.intCast_add, iv_vl ha, iv_vl hb, vl_plus ha.nrm hb.nrm]
  grind
theorem iv_minus {D A B : Nat} {a b : F} (ha : Sm D A a) (hb : Sm D B b) : iv D (minusM a b) = iv D a - iv D b := by
  refine Rat.intCast_inj.mp ?_
  rw [iv_vl (ha.minus hb), Rat.intCast_sub, iv_vl ha, iv_vl hb, vl_minus ha.nrm hb.nrm]
  grind
theorem iv_zero (D : Nat) : iv D (0, 1) = 0 := by unfold iv; exact Int.zero_mul _
theorem iv_lt {D A B : Nat} {a b : F} (hD : 0 < D) (ha : Sm D A a) (hb : Sm D B b) : less a b = decide (iv D a < iv D b) := by
  rw [less_vl ha.nrm.1 hb.nrm.1, decide_eq_decide, ← Rat.intCast_lt_intCast, iv_vl ha, iv_vl hb]
  have p : (0 : Rat) < ((D : Int) : Rat) := FR.cpos (by omega)
  constructor
  · intro h
    exact Rat.mul_lt_mul_of_pos_right h p
  · intro h
    exact Rat.lt_of_mul_lt_mul_right h (by grind)
theorem iv_cmp {D A B : Nat} {a b : F} (hD : 0 < D) (ha : Sm D A a) (hb : Sm D B b) : cmpM a b < 0 ↔ iv D a < iv D b := by
  have e : lt0 (cmpM a b) 0 = decide (iv D a < iv D b) := by
    rw [lt0_vl ha.nrm hb.nrm, ← less_vl ha.nrm.1 hb.nrm.1, iv_lt hD ha hb]
  have e : decide (cmpM a b < 0) = decide (iv D a < iv D b) := e
  rw [decide_eq_decide] at e
  exact e
theorem iv_le {D B : Nat} {a : F} (h : Sm D B a) : iv D a ≤ (B * D : Nat) ∧ -((B * D : Nat) : Int) ≤ iv D a := by
  have p : (0 : Rat) ≤ ((D : Int) : Rat) := by
    have : ((0 : Int) : Rat) ≤ ((D : Int) : Rat) := Rat.intCast_le_intCast.mpr (by omega)
    exact this
  have e : (((B * D : Nat) : Int) : Rat) = ((B : Int) : Rat) * ((D : Int) : Rat) := by rw [Int.natCast_mul, Rat.intCast_mul]
  constructor
  · refine Rat.intCast_le_intCast.mp ?_
    rw [iv_vl h, e]
    exact Rat.mul_le_mul_of_nonneg_right h.hi p
  · refine Rat.intCast_le_intCast.mp ?_
    rw [iv_vl h, Rat.intCast_neg, e]
    have := Rat.mul_le_mul_of_nonneg_right h.lo p
    grind
theorem sm_iv {D B C : Nat} {a : F} (hD : 0 < D) (h : Sm D B a) (h1 : iv D a ≤ (C * D : Nat)) (h2 : -((C * D : Nat) : Int) ≤ iv D a) : Sm D C a := by
  have p : (0 : Rat) < ((D : Int) : Rat) := FR.cpos (by omega)
  have e : (((C * D : Nat) : Int) : Rat) = ((C : Int) : Rat) * ((D : Int) : Rat) := by rw [Int.natCast_mul, Rat.intCast_mul]
  refine ⟨h.nrm, h.int, ?_, ?_⟩
  · have := Rat.intCast_le_intCast.mpr h2
    rw [iv_vl h, Rat.intCast_neg, e] at this
    exact Rat.le_of_mul_le_mul_right (by grind) p
  · have := Rat.intCast_le_intCast.mpr h1
    rw [iv_vl h, e] at this
    exact Rat.le_of_mul_le_mul_right this p
structure MS where
  ks : List Int
  v : Int → F
def putF (v : Int → F) (b : Int) (r : F) : Int → F := fun x => if x = b then r else v x
def stM (s : MS) (e : FEd) : MS := if e.1 ∈ s.ks then (if e.2.1 ∉ s.ks then ⟨s.ks ++ [e.2.1], putF s.v e.2.1 (plusM (s.v e.1) e.2.2)⟩ else if cmpM (plusM (s.v e.1) e.2.2) (s.v e.2.1) < 0 then ⟨s.ks, putF s.v e.2.1 (plusM (s.v e.1) e.2.2)⟩ else s) else s
def hit (s : MS) (e : FEd) : Bool := decide (e.1 ∈ s.ks) && (decide (e.2.1 ∉ s.ks) || decide (cmpM (plusM (s.v e.1) e.2.2) (s.v e.2.1) < 0))
def pasM (es : List FEd) (s : MS) : MS := es.foldl stM s
def hitM (es : List FEd) (s : MS) : Bool := (es.foldl (fun (p : MS × Bool) e => (stM p.1 e, p.2 || hit p.1 e)) (s, false)).2
theorem fold_fst (es : List FEd) (s : MS) (b : Bool) : (es.foldl (fun (p : MS × Bool) e => (stM p.1 e, p.2 || hit p.1 e)) (s, b)).1 = pasM es s := by
  induction es generalizing s b with
  | nil => rfl
  | cons e es ih => exact ih _ _
theorem pasM_snoc {es : List FEd} {e : FEd} {s : MS} : pasM (es ++ [e]) s = stM (pasM es s) e := by unfold pasM; rw [List.foldl_append]; rfl
theorem hitM_snoc {es : List FEd} {e : FEd} {s : MS} : hitM (es ++ [e]) s = (hitM es s || hit (pasM es s) e) := by
  unfold hitM
  rw [List.foldl_append, ← fold_fst es s false]
  rfl
theorem st_no {s : MS} {e : FEd} (h : hit s e = false) : stM s e = s := by
  unfold hit at h
  unfold stM
  by_cases c : e.1 ∈ s.ks
  · rw [if_pos c]
    rw [decide_eq_true c, Bool.true_and, Bool.or_eq_false_iff, decide_eq_false_iff_not, decide_eq_false_iff_not] at h
    rw [if_neg h.1, if_neg h.2]
  · rw [if_neg c]
theorem hit_fold (es : List FEd) : ∀ (s : MS) (b : Bool), (es.foldl (fun (p : MS × Bool) e => (stM p.1 e, p.2 || hit p.1 e)) (s, b)).2 = (b || hitM es s) := by
  induction es with
  | nil => exact fun s b => (Bool.or_false b).symm
  | cons e es ih =>
    intro s b
    unfold hitM
    show (es.foldl _ (stM s e, b || hit s e)).2 = (b || (es.foldl _ (stM s e, false || hit s e)).2)
    rw [ih, ih, Bool.false_or, Bool.or_assoc]
theorem hitM_cons {es : List FEd} {e : FEd} {s : MS} : hitM (e :: es) s = (hit s e || hitM es (stM s e)) := by
  show (es.foldl _ (stM s e, false || hit s e)).2 = _
  rw [hit_fold, Bool.false_or]
theorem pas_same : ∀ {es : List FEd} {s : MS}, hitM es s = false → pasM es s = s
  | [], _, _ => rfl
  | e :: es, s, h => by
    rw [hitM_cons, Bool.or_eq_false_iff] at h
    show pasM es (stM s e) = s
    have h2 := h.2
    rw [st_no h.1] at h2 ⊢
    exact pas_same h2
theorem hit_all : ∀ {es : List FEd} {s : MS}, hitM es s = false → ∀ e ∈ es, hit s e = false
  | e :: es, s, h, f, hf => by
    rw [hitM_cons, Bool.or_eq_false_iff] at h
    rcases List.mem_cons.mp hf with rfl | hf
    · exact h.1
    · have h2 := h.2
      rw [st_no h.1] at h2
      exact hit_all h2 f hf
def runM (es : List FEd) : Nat → MS → MS
  | 0, s => s
  | n + 1, s => runM es n (pasM es s)
theorem runM_succ (es : List FEd) : ∀ (n : Nat) (s : MS), runM es (n + 1) s = pasM es (runM es n s)
  | 0, _ => rfl
  | n + 1, s => runM_succ es n (pasM es s)
theorem run_stay {es : List FEd} {s : MS} {n : Nat} (h : hitM es (runM es n s) = false) : ∀ m, runM es (n + m) s = runM es n s
  | 0 => rfl
  | m + 1 => by
    show runM es (n + m + 1) s = _
    rw [runM_succ, run_stay h m, pas_same h]
theorem run_same {es : List FEd} {s : MS} {n m : Nat} (h1 : hitM es (runM es n s) = false) (h2 : hitM es (runM es m s) = false) : runM es n s = runM es m s := by
  rcases Nat.le_total n m with h | h
  · obtain ⟨k, rfl⟩ := Nat.exists_eq_add_of_le h
    exact (run_stay h1 k).symm
  · obtain ⟨k, rfl⟩ := Nat.exists_eq_add_of_le h
    exact run_stay h2 k
def ms0 (st : Int) : MS := ⟨[st], fun _ => (0, 1)⟩
open Classical in
noncomputable def mostM (es : List FEd) (st : Int) : MS := if h : ∃ n, hitM es (runM es n (ms0 st)) = false then runM es (Classical.choose h) (ms0 st) else ms0 st
abbrev ieD (e : FEd) : PM.Ed := (e.1, e.2.1, iv 300 e.2.2)
/-- limits that some places keep -/
structure MK (ns : List Int) (es : List FEd) (y0 : Int → Int) (st : Int) : Prop where
  st : st ∈ ns
  len : ns.length ≤ 24
  en : ∀ e ∈ es, e.1 ∈ ns ∧ e.2.1 ∈ ns
  sm : ∀ e ∈ es, Sm 300 802 e.2.2
  fs : PM.Feas (es.map ieD) y0
  lo : ∀ x, -120000 ≤ y0 x
  hi : ∀ x, y0 x ≤ 120000
abbrev ivs (v : Int → F) : Int → Int := fun x => iv 300 (v x)
structure MI (ns : List Int) (es : List FEd) (y0 : Int → Int) (st : Int) (s : MS) : Prop where
  src : PM.Src ns (es.map ieD) st 240600 s.ks (ivs s.v)
  sm : ∀ x ∈ s.ks, Sm 300 20000 (s.v x)
  len : s.ks.length < 100000
def leftM (ns : List Int) (y0 : Int → Int) (st : Int) (s : MS) : Nat := PM.left ns y0 st 10000000 s.ks (ivs s.v)
theorem ivs_put {v : Int → F} {b : Int} {r : F} : ivs (putF v b r) = PM.put (ivs v) b (iv 300 r) := by
  funext x
  show iv 300 (if x = b then r else v x) = if x = b then iv 300 r else iv 300 (v x)
  split <;> rfl
section
variable {ns : List Int} {es : List FEd} {y0 : Int → Int} {st : Int} (mk : MK ns es y0 st)
include mk
theorem mi_start : MI ns es y0 st (ms0 st) := ⟨PM.src_start mk.st (by decide) (iv_zero 6), fun x _ => sm_c0, by show 1 < 100000; decide⟩
theorem src_len {ks : List Int} {p : Int → Int} (h : PM.Src ns (es.map ieD) st 240600 ks p) : ks.length ≤ 24 := by
  refine Nat.le_trans ?_ mk.len
  exact nodup_len_le h.nd h.sub
theorem mi_of {ks : List Int} {v : Int → F} {B : Nat} (h : PM.Src ns (es.map ieD) st 240600 ks (ivs v)) (hs : ∀ x ∈ ks, Sm 300 B (v x)) : MI ns es y0 st ⟨ks, v⟩ := by
  have l := src_len mk h
  refine ⟨h, fun x hx => sm_iv (by decide) (hs x hx) ?_ ?_, by show ks.length < 100000; omega⟩
  · show iv 300 (v x) ≤ ((20000 * 300 : Nat) : Int)
    have h1 : iv 300 (v x) ≤ (ks.length : Int) * 240600 := h.hi x hx
    have : ((20000 * 300 : Nat) : Int) = 6000000 := by decide
    omega
  · show -((20000 * 300 : Nat) : Int) ≤ iv 300 (v x)
    have h1 : y0 x - y0 st ≤ iv 300 (v x) := h.low y0 mk.fs x hx
    have h2 := mk.lo x
    have h3 := mk.hi st
    have : ((20000 * 300 : Nat) : Int) = 6000000 := by decide
    omega
theorem mi_step {s : MS} (h : MI ns es y0 st s) {e : FEd} (he : e ∈ es) : MI ns es y0 st (stM s e) ∧ (hit s e = true → leftM ns y0 st (stM s e) < leftM ns y0 st s) := by
  obtain ⟨x, y, n⟩ := e
  have hE := mk.en _ he
  have sn : Sm 300 802 n := mk.sm _ he
  have hm : (x, y, iv 300 n) ∈ es.map ieD := List.mem_map.mpr ⟨_, he, rfl⟩
  have ln := iv_le sn
  have n1 : iv 300 n ≤ 240600 := ln.1
  dsimp only at hE
  by_cases c : x ∈ s.ks
  · have hvx := h.sm x c
    have hr := hvx.plus sn
    have er := iv_plus hvx sn
    by_cases c2 : y ∈ s.ks
    · have hvy := h.sm y c2
      by_cases c3 : cmpM (plusM (s.v x) n) (s.v y) < 0
      · have e1 : stM s (x, y, n) = ⟨s.ks, putF s.v y (plusM (s.v x) n)⟩ := by
          unfold stM
          rw [if_pos c, if_neg (fun z => z c2), if_pos c3]
        have lt : ivs s.v x + iv 300 n < ivs s.v y := by
          have := (iv_cmp (by decide) hr hvy).mp c3
          rw [er] at this
          exact this
        have src : PM.Src ns (es.map ieD) st 240600 s.ks (ivs (putF s.v y (plusM (s.v x) n))) := by
          rw [ivs_put, er]
          exact PM.src_low h.src mk.fs hm c c2 lt
        rw [e1]
        refine ⟨mi_of mk (B := 20000 + 802) src fun z hz => ?_, fun _ => ?_⟩
        · unfold putF
          split
          · exact hr
          · exact (h.sm z hz).up (by decide)
        · show PM.left ns y0 st 10000000 s.ks (ivs (putF s.v y (plusM (s.v x) n))) < PM.left ns y0 st 10000000 s.ks (ivs s.v)
          rw [ivs_put, er]
          refine PM.left_low hE.2 c2 lt ?_
          have a := mk.fs _ hm
          have b := h.src.low y0 mk.fs x c
          dsimp only at a
          have b : y0 x - y0 st ≤ ivs s.v x := b
          have ex : ivs s.v x = iv 300 (s.v x) := rfl
          omega
      · have e1 : stM s (x, y, n) = s := by
          unfold stM
          rw [if_pos c, if_neg (fun z => z c2), if_neg c3]
        have e2 : hit s (x, y, n) = false := by
          unfold hit
          rw [decide_eq_true c, decide_eq_false c3, decide_eq_false (fun z => z c2)]
          rfl
        rw [e1, e2]
        exact ⟨h, fun z => by cases z⟩
    · have e1 : stM s (x, y, n) = ⟨s.ks ++ [y], putF s.v y (plusM (s.v x) n)⟩ := by
        unfold stM
        rw [if_pos c, if_pos c2]
      have src : PM.Src ns (es.map ieD) st 240600 (s.ks ++ [y]) (ivs (putF s.v y (plusM (s.v x) n))) := by
        rw [ivs_put, er]
        exact PM.src_new h.src hm hE.2 n1 c c2 (by decide)
      rw [e1]
      refine ⟨mi_of mk (B := 20000 + 802) src fun z hz => ?_, fun _ => ?_⟩
      · unfold putF
        split
        · exact hr
        · rename_i hzy
          rcases List.mem_append.mp hz with hz | hz
          · exact (h.sm z hz).up (by decide)
          · exact absurd (List.mem_singleton.mp hz) hzy
      · show PM.left ns y0 st 10000000 (s.ks ++ [y]) (ivs (putF s.v y (plusM (s.v x) n))) < PM.left ns y0 st 10000000 s.ks (ivs s.v)
        rw [ivs_put, er]
        refine PM.left_new (es := es.map ieD) (N0 := 240600) hE.2 c2 ?_
        have a := (iv_le hvx).1
        have l1 := mk.lo y
        have l2 := mk.hi st
        have a : ivs s.v x ≤ 6000000 := a
        omega
  · have e1 : stM s (x, y, n) = s := if_neg c
    have e2 : hit s (x, y, n) = false := by
      unfold hit
      rw [decide_eq_false c]
      rfl
    rw [e1, e2]
    exact ⟨h, fun z => by cases z⟩
theorem mi_pas {s : MS} (h : MI ns es y0 st s) : ∀ fs : List FEd, (∀ e ∈ fs, e ∈ es) → MI ns es y0 st (pasM fs s) ∧ (hitM fs s = true → leftM ns y0 st (pasM fs s) < leftM ns y0 st s) := by
  intro fs
  induction fs generalizing s with
  | nil => exact fun _ => ⟨h, fun z => by cases z⟩
  | cons e fs ih =>
    intro hf
    obtain ⟨h1, h2⟩ := mi_step mk h (hf e List.mem_cons_self)
    obtain ⟨h3, h4⟩ := ih h1 fun f hg => hf f (List.mem_cons_of_mem _ hg)
    refine ⟨h3, fun z => ?_⟩
    rw [hitM_cons, Bool.or_eq_true] at z
    show leftM ns y0 st (pasM fs (stM s e)) < leftM ns y0 st s
    have le : leftM ns y0 st (pasM fs (stM s e)) ≤ leftM ns y0 st (stM s e) := by
      cases c : hitM fs (stM s e) with
      | true => exact Nat.le_of_lt (h4 c)
      | false => rw [pas_same c]; exact Nat.le_refl _
    have le2 : leftM ns y0 st (stM s e) ≤ leftM ns y0 st s := by
      cases c : hit s e with
      | true => exact Nat.le_of_lt (h2 c)
      | false => rw [st_no c]; exact Nat.le_refl _
    rcases z with z | z
    · have := h2 z
      omega
    · have := h4 z
      omega
theorem run_stops : ∀ (m : Nat) (n : Nat), MI ns es y0 st (runM es n (ms0 st)) → leftM ns y0 st (runM es n (ms0 st)) ≤ m → ∃ n, hitM es (runM es n (ms0 st)) = false := by
  intro m
  induction m with
  | zero =>
    intro n h hl
    cases c : hitM es (runM es n (ms0 st)) with
    | false => exact ⟨n, c⟩
    | true =>
      have := (mi_pas mk h es fun e he => he).2 c
      omega
  | succ m ih =>
    intro n h hl
    cases c : hitM es (runM es n (ms0 st)) with
    | false => exact ⟨n, c⟩
    | true =>
      have p := mi_pas mk h es fun e he => he
      have := p.2 c
      refine ih (n + 1) (by rw [runM_succ]; exact p.1) (by rw [runM_succ]; omega)
theorem most_is : ∃ n, mostM es st = runM es n (ms0 st) ∧ hitM es (runM es n (ms0 st)) = false := by
  have h : ∃ n, hitM es (runM es n (ms0 st)) = false := run_stops mk _ 0 (mi_start mk) (Nat.le_refl _)
  refine ⟨Classical.choose h, ?_, Classical.choose_spec h⟩
  unfold mostM
  rw [dif_pos h]
theorem run_mi : ∀ n, MI ns es y0 st (runM es n (ms0 st))
  | 0 => mi_start mk
  | n + 1 => by rw [runM_succ]; exact (mi_pas mk (run_mi n) es fun e he => he).1
end
def RMost (ds : List Dat) (d : Dat) : Prop := ∃ (es : List FEd) (st : Int), ds = [.d (.list (es.map feD)), .i st] ∧ (∃ ns y0, MK ns es y0 st) ∧ d = .k (kvF (mostM es st).ks fun n => fr ((mostM es st).v n))
theorem fnd_in {bs : List Bd} {n : Int} : (fnd bs n).isSome = decide (n ∈ bs.map (·.nm)) := by
  cases e : fnd bs n with
  | none =>
    have := List.find?_eq_none.mp e
    symm
    rw [Option.isSome_none, decide_eq_false_iff_not]
    intro z
    obtain ⟨b, hb, rfl⟩ := List.mem_map.mp z
    have := this b hb
    simp at this
  | some x =>
    rw [Option.isSome_some, eq_comm, decide_eq_true_iff]
    exact List.mem_map.mpr ⟨x, fnd_mem e, fnd_nm e⟩
def yB (s : Sta) (k : Int) (x : Int) : Int := match fnd s.bs x with
  | some b => iv 300 (posK b k)
  | none => 0
theorem yB_at {s : Sta} {k n : Int} {x : Bd} (h : fnd s.bs n = some x) : yB s k n = iv 300 (posK x k) := by unfold yB; rw [h]
theorem way_pos {x y : Bd} {k : Int} : wayM x y k = minusM (posK y k) (posK x k) := by
  unfold wayM posK
  split <;> rfl
theorem chF_in {k : Int} : ∀ {xs : List Bd} {e : FEd}, e ∈ chF k xs → ∃ x ∈ xs, ∃ y ∈ xs, (e = (x.nm, y.nm, minusM (posK y k) (posK x k)) ∨ e = (y.nm, x.nm, minusM (0, 1) (minusM (posK y k) (posK x k))))
  | [], _, h => by simp [chF] at h
  | [_], _, h => by simp [chF] at h
  | a :: b :: xs, e, h => by
    unfold chF at h
    rcases List.mem_cons.mp h with rfl | h
    · exact ⟨a, by simp, b, by simp, .inl rfl⟩
    rcases List.mem_cons.mp h with rfl | h
    · exact ⟨a, by simp, b, by simp, .inr rfl⟩
    · obtain ⟨x, hx, y, hy, z⟩ := chF_in h
      exact ⟨x, List.mem_cons_of_mem _ hx, y, List.mem_cons_of_mem _ hy, z⟩
theorem chF_back {k : Int} : ∀ {xs : List Bd} {e : FEd}, e ∈ chF k xs → ∃ n, (e.2.1, e.1, n) ∈ chF k xs
  | [], _, h => by simp [chF] at h
  | [_], _, h => by simp [chF] at h
  | a :: b :: xs, e, h => by
    unfold chF at h ⊢
    rcases List.mem_cons.mp h with rfl | h
    · exact ⟨_, List.mem_cons_of_mem _ List.mem_cons_self⟩
    rcases List.mem_cons.mp h with rfl | h
    · exact ⟨_, List.mem_cons_self⟩
    · obtain ⟨n, hn⟩ := chF_back h
      exact ⟨n, List.mem_cons_of_mem _ (List.mem_cons_of_mem _ hn)⟩
theorem bnd_in {s : Sta} {k : Int} {e : FEd} (h : e ∈ bndM s k) : (∃ j ∈ s.js, j.k = k ∧ (e = (j.a, j.b, j.hi) ∨ e = (j.b, j.a, minusM (0, 1) j.lo))) ∨ e ∈ chF k (fixM s) := by
  unfold bndM at h
  rcases List.mem_append.mp h with h | h
  · obtain ⟨j, hj, he⟩ := List.mem_flatMap.mp h
    unfold jE at he
    split at he
    · rename_i c
      refine .inl ⟨j, hj, c, ?_⟩
      rcases List.mem_cons.mp he with rfl | he
      · exact .inl rfl
      · exact .inr (List.mem_singleton.mp he)
    · cases he
  · exact .inr h
theorem bnd_back {s : Sta} {k : Int} {e : FEd} (h : e ∈ bndM s k) : ∃ n, (e.2.1, e.1, n) ∈ bndM s k := by
  unfold bndM at h ⊢
  rcases List.mem_append.mp h with h | h
  · obtain ⟨j, hj, he⟩ := List.mem_flatMap.mp h
    have hj2 := he
    unfold jE at he
    split at he
    · rename_i c
      have z : jE k j = [(j.a, j.b, j.hi), (j.b, j.a, minusM (0, 1) j.lo)] := if_pos c
      rcases List.mem_cons.mp he with rfl | he
      · exact ⟨_, List.mem_append_left _ (List.mem_flatMap.mpr ⟨j, hj, by rw [z]; exact List.mem_cons_of_mem _ List.mem_cons_self⟩)⟩
      · rw [List.mem_singleton.mp he]
        exact ⟨_, List.mem_append_left _ (List.mem_flatMap.mpr ⟨j, hj, by rw [z]; exact List.mem_cons_self⟩)⟩
    · cases he
  · obtain ⟨n, hn⟩ := chF_back h
    exact ⟨n, List.mem_append_right _ hn⟩
section
variable {s : Sta} {k : Int} (hg : Gd s) (hk : k = 0 ∨ k = 1)
include hg hk
theorem fix_fnd {x : Bd} (h : x ∈ fixM s) : fnd s.bs x.nm = some x := fnd_of (asc_nodup hg.up) (List.mem_filter.mp h).1
theorem pos_sm {x : Bd} (h : x ∈ s.bs) : Sm 6 400 (posK x k) := okp hk (hg.bs x h).bx
theorem pos_s3 {x : Bd} (h : x ∈ s.bs) : Sm 300 400 (posK x k) := (pos_sm hg hk h).mono (by decide) (Nat.le_refl _)
theorem mk_good {a : Int} (ha : a ∈ nmsM s) : MK (nmsM s) (bndM s k) (yB s k) a := by
  have ln : ∀ x, -120000 ≤ yB s k x ∧ yB s k x ≤ 120000 := fun x => by
    cases e : fnd s.bs x with
    | none =>
      have : yB s k x = 0 := by unfold yB; rw [e]
      omega
    | some b =>
      have l := iv_le (pos_s3 hg hk (fnd_mem e))
      rw [yB_at e]
      have : ((400 * 300 : Nat) : Int) = 120000 := by decide
      omega
  refine ⟨ha, by rw [List.length_map]; exact hg.len.1, fun e he => ?_, fun e he => ?_, fun e he => ?_, fun x => (ln x).1, fun x => (ln x).2⟩
  · rcases bnd_in he with ⟨j, hj, _, h⟩ | h
    · have l := hg.ends (j.a, j.b) (List.mem_map.mpr ⟨j, hj, rfl⟩)
      rcases h with rfl | rfl
      · exact l
      · exact ⟨l.2, l.1⟩
    · obtain ⟨x, hx, y, hy, h⟩ := chF_in h
      have lx : x.nm ∈ nmsM s := List.mem_map.mpr ⟨x, (List.mem_filter.mp hx).1, rfl⟩
      have ly : y.nm ∈ nmsM s := List.mem_map.mpr ⟨y, (List.mem_filter.mp hy).1, rfl⟩
      rcases h with rfl | rfl
      · exact ⟨lx, ly⟩
      · exact ⟨ly, lx⟩
  · rcases bnd_in he with ⟨j, hj, _, h⟩ | h
    · have J := hg.js j hj
      rcases h with rfl | rfl
      · exact J.hi.mono (by decide) (by decide)
      · exact ((sm_c0 (D := 300) (B := 0)).minus (J.lo.mono (E := 300) (by decide) (Nat.le_refl _))).up (by decide)
    · obtain ⟨x, hx, y, hy, h⟩ := chF_in h
      have px := pos_s3 hg hk (List.mem_filter.mp hx).1
      have py := pos_s3 hg hk (List.mem_filter.mp hy).1
      rcases h with rfl | rfl
      · exact (py.minus px).up (by decide)
      · exact ((sm_c0 (D := 300) (B := 0)).minus (py.minus px)).up (by decide)
  · obtain ⟨f, hf, rfl⟩ := List.mem_map.mp he
    rcases bnd_in hf with ⟨j, hj, ek, h⟩ | h
    · have J := hg.js j hj
      obtain ⟨x, y, fa, fb, _, _, h3⟩ := jbad_no (hg.jt hj)
      have px := pos_s3 hg hk (fnd_mem fa)
      have py := pos_s3 hg hk (fnd_mem fb)
      have W := py.minus px
      have JL : Sm 300 802 j.lo := J.lo.mono (by decide) (Nat.le_refl _)
      have JH : Sm 300 802 j.hi := J.hi.mono (by decide) (Nat.le_refl _)
      rw [ek, way_pos, Bool.or_eq_false_iff, decide_eq_false_iff_not] at h3
      have ew := iv_minus py px
      have l1 : ¬ iv 300 (minusM (posK y k) (posK x k)) < iv 300 j.lo := fun z => h3.1 ((iv_cmp (by decide) W JL).mpr z)
      have l2 : ¬ iv 300 j.hi < iv 300 (minusM (posK y k) (posK x k)) := fun z => by
        have h4 := h3.2
        rw [gt0_vl W.nrm J.hi.nrm, ← less_vl J.hi.nrm.1 W.nrm.1, iv_lt (by decide) JH W, decide_eq_false_iff_not] at h4
        exact h4 z
      rcases h with rfl | rfl
      · show yB s k j.b ≤ yB s k j.a + iv 300 j.hi
        rw [yB_at fa, yB_at fb]
        omega
      · show yB s k j.a ≤ yB s k j.b + iv 300 (minusM (0, 1) j.lo)
        rw [yB_at fa, yB_at fb, iv_minus (sm_c0 (D := 300) (B := 0)) JL, iv_zero]
        omega
    · obtain ⟨x, hx, y, hy, h⟩ := chF_in h
      have px := pos_s3 hg hk (List.mem_filter.mp hx).1
      have py := pos_s3 hg hk (List.mem_filter.mp hy).1
      have ew := iv_minus py px
      rcases h with rfl | rfl
      · show yB s k y.nm ≤ yB s k x.nm + iv 300 (minusM (posK y k) (posK x k))
        rw [yB_at (fix_fnd hg hk hx), yB_at (fix_fnd hg hk hy)]
        omega
      · show yB s k x.nm ≤ yB s k y.nm + iv 300 (minusM (0, 1) (minusM (posK y k) (posK x k)))
        rw [yB_at (fix_fnd hg hk hx), yB_at (fix_fnd hg hk hy), iv_minus (sm_c0 (D := 300) (B := 0)) (py.minus px), iv_zero]
        omega
end
theorem most_mi {ns : List Int} {es : List FEd} {y0 : Int → Int} {st : Int} (mk : MK ns es y0 st) : MI ns es y0 st (mostM es st) := by
  obtain ⟨n, e, _⟩ := most_is mk
  rw [e]
  exact run_mi mk n
theorem most_sm {ns : List Int} {es : List FEd} {y0 : Int → Int} {st x : Int} (mk : MK ns es y0 st) (h : x ∈ (mostM es st).ks) : Sm 300 20000 ((mostM es st).v x) := (most_mi mk).sm x h
theorem most_done {ns : List Int} {es : List FEd} {y0 : Int → Int} {st : Int} (mk : MK ns es y0 st) : PM.Done (es.map ieD) (mostM es st).ks (ivs (mostM es st).v) := by
  obtain ⟨n, e, c⟩ := most_is mk
  have M := most_mi mk
  rw [← e] at c
  intro f hf hx
  obtain ⟨g, hg, rfl⟩ := List.mem_map.mp hf
  have h := hit_all c g hg
  have hx : g.1 ∈ (mostM es st).ks := hx
  unfold hit at h
  rw [decide_eq_true hx, Bool.true_and, Bool.or_eq_false_iff, decide_eq_false_iff_not, decide_eq_false_iff_not] at h
  have hy : g.2.1 ∈ (mostM es st).ks := Classical.not_not.mp h.1
  refine ⟨hy, ?_⟩
  have sx := M.sm _ hx
  have sy := M.sm _ hy
  have sn := mk.sm g hg
  have l : ¬ iv 300 (plusM ((mostM es st).v g.1) g.2.2) < iv 300 ((mostM es st).v g.2.1) := fun z => h.2 ((iv_cmp (by decide) (sx.plus sn) sy).mpr z)
  rw [iv_plus sx sn] at l
  exact Int.not_lt.mp l
theorem most_reach {ns : List Int} {es : List FEd} {y0 : Int → Int} {st : Int} (mk : MK ns es y0 st) {S : Int → Prop} (h0 : S st) (hS : ∀ e ∈ es, S e.1 → S e.2.1) : ∀ x ∈ (mostM es st).ks, S x := by
  obtain ⟨n, e, _⟩ := most_is mk
  rw [e]
  have step : ∀ (s : MS) (e : FEd), e ∈ es → (∀ x ∈ s.ks, S x) → ∀ x ∈ (stM s e).ks, S x := by
    intro s e he hs
    unfold stM
    split
    · rename_i c
      split
      · intro x hx
        rcases List.mem_append.mp hx with hx | hx
        · exact hs x hx
        · rw [List.mem_singleton.mp hx]
          exact hS e he (hs _ c)
      · split <;> exact hs
    · exact hs
  have pas : ∀ (fs : List FEd) (s : MS), (∀ e ∈ fs, e ∈ es) → (∀ x ∈ s.ks, S x) → ∀ x ∈ (pasM fs s).ks, S x := by
    intro fs
    induction fs with
    | nil => exact fun s _ h => h
    | cons e fs ih => exact fun s hf h => ih (stM s e) (fun f hg => hf f (List.mem_cons_of_mem _ hg)) (step s e (hf e List.mem_cons_self) h)
  have run : ∀ n, ∀ x ∈ (runM es n (ms0 st)).ks, S x := by
    intro n
    induction n with
    | zero =>
      intro x hx
      rw [show x = st from List.mem_singleton.mp hx]
      exact h0
    | succ n ih =>
      rw [runM_succ]
      exact pas es _ (fun e he => he) ih
  exact run n
theorem most_back {s : Sta} {k a b : Int} (hg : Gd s) (hk : k = 0 ∨ k = 1) (ha : a ∈ nmsM s) (hb : b ∈ nmsM s) (h : b ∈ (mostM (bndM s k) a).ks) : a ∈ (mostM (bndM s k) b).ks := by
  have mka := mk_good hg hk ha
  have mkb := mk_good hg hk hb
  refine Classical.byContradiction fun n => ?_
  refine most_reach mka (S := fun x => x ∉ (mostM (bndM s k) b).ks) n (fun e he hx hy => ?_) b h (most_mi mkb).src.hs
  obtain ⟨m, hm⟩ := bnd_back he
  exact hx (most_done mkb _ (List.mem_map.mpr ⟨_, hm, rfl⟩) hy).1
noncomputable def playM (s : Sta) (a b k : Int) : PyData := if b ∈ (mostM (bndM s k) a).ks then .tuple [fr (minusM (0, 1) ((mostM (bndM s k) b).v a)), fr ((mostM (bndM s k) a).v b)] else .tuple [.none, .none]
def RPlay (CI CA : Addr) (ds : List Dat) (r : Res) : Prop := ∃ (st : Sta) (a b k : Int), ds = [.d (stD st), .i a, .i b, .i k] ∧ Gd st ∧ (((a ∉ nmsM st ∨ b ∉ nmsM st) ∧ r = .err CI) ∨ (a ∈ nmsM st ∧ b ∈ nmsM st ∧ ¬(k = 0 ∨ k = 1) ∧ r = .err CA) ∨ (a ∈ nmsM st ∧ b ∈ nmsM st ∧ (k = 0 ∨ k = 1) ∧ r = .ok (.d (playM st a b k))))
/-! poses -/
abbrev Pl := Int × F × F
abbrev plD (p : Pl) : PyData := .tuple [.int p.1, vcd p.2.1 p.2.2]
abbrev plP (p : Pl) : Int × PyData := (p.1, vcd p.2.1 p.2.2)
def plG (pl : List Pl) (n : Int) : Option (F × F) := (pl.find? fun p => decide (p.1 = n)).map (·.2)
def posV (pl : List Pl) (b : Bd) : F × F := (plG pl b.nm).getD (b.bx.p0, b.bx.p1)
def posG (pl : List Pl) (b : Bd) : PyData := vcd (posV pl b).1 (posV pl b).2
theorem posG_eq {pl : List Pl} {b : Bd} : posG pl b = vcd (posV pl b).1 (posV pl b).2 := rfl
def mvB (pl : List Pl) (b : Bd) : Bd := { b with bx := ⟨(posV pl b).1, (posV pl b).2, b.bx.s0, b.bx.s1⟩ }
def newS (s : Sta) (pl : List Pl) : Sta := { s with bs := s.bs.map (mvB pl) }
theorem pl_get (pl : List Pl) (b : Bd) : (valD ((pl.map plP).map prK) (.inl b.nm)).getD (vcd b.bx.p0 b.bx.p1) = posG pl b := by
  have key : valD ((pl.map plP).map prK) (.inl b.nm) = (plG pl b.nm).map fun v => vcd v.1 v.2 := by
    unfold plG
    induction pl with
    | nil => rfl
    | cons p pl ih =>
      unfold valD at ih ⊢
      rw [List.map_cons, List.map_cons]
      by_cases c : p.1 = b.nm
      · rw [List.find?_cons_of_pos (by simpa [prK, plP] using c), List.find?_cons_of_pos (by simpa using c)]
        rfl
      · rw [List.find?_cons_of_neg (by simpa [prK, plP] using c), List.find?_cons_of_neg (by simpa using c), ih]
  rw [key]
  unfold posG posV
  cases plG pl b.nm <;> rfl
structure PlOk (p : Pl) : Prop where
  x : Sm 6 1000 p.2.1
  y : Sm 6 1000 p.2.2
theorem posV_ok {pl : List Pl} {b : Bd} (hp : ∀ p ∈ pl, PlOk p) (hb : BN 400 b.bx) : Sm 6 1000 (posV pl b).1 ∧ Sm 6 1000 (posV pl b).2 := by
  unfold posV plG
  cases e : pl.find? fun p => decide (p.1 = b.nm) with
  | none => exact ⟨hb.p0.up (by decide), hb.p1.up (by decide)⟩
  | some p =>
    have := hp p (List.mem_of_find?_eq_some e)
    exact ⟨this.x, this.y⟩
theorem mvB_ok {pl : List Pl} {b : Bd} (hp : ∀ p ∈ pl, PlOk p) (hb : BdM 400 b) : BdM 1000 (mvB pl b) := by
  have h := posV_ok hp hb.bx
  exact ⟨⟨h.1, h.2, hb.bx.s0, hb.bx.s1⟩, hb.sz, hb.gr, hb.v0, hb.v1, hb.ms⟩
theorem new_ok {s : Sta} {pl : List Pl} (hg : Gd s) (hp : ∀ p ∈ pl, PlOk p) : StaOk (newS s pl) := by
  refine ⟨fun b hb => ?_, hg.ok.js, by show (s.bs.map (mvB pl)).length ≤ 100000; rw [List.length_map]; exact hg.ok.len, hg.ok.u0, hg.ok.u1⟩
  obtain ⟨x, hx, rfl⟩ := List.mem_map.mp hb
  exact (mvB_ok hp (hg.bs x hx)).ok (by decide)
theorem badN_asc {bs : List Bd} : ∀ {ns : List Int} {bf : Int}, badN bs bf ns = false → (∀ n ∈ ns, bf < n) ∧ ns.Pairwise (· < ·)
  | [], _, _ => ⟨fun n h => (by simp at h), .nil⟩
  | n :: ns, bf, h => by
    have h : ((decide (n ≤ bf) || !movB bs n) || badN bs n ns) = false := h
    rw [Bool.or_eq_false_iff, Bool.or_eq_false_iff, decide_eq_false_iff_not] at h
    have ih := badN_asc h.2
    have lt : bf < n := by omega
    refine ⟨fun m hm => ?_, List.pairwise_cons.mpr ⟨ih.1, ih.2⟩⟩
    rcases List.mem_cons.mp hm with rfl | hm
    · exact lt
    · have := ih.1 m hm
      omega
theorem badN_nd {bs : List Bd} {pl : List Pl} (h : badN bs (-1) (pl.map (·.1)) = false) : (pl.map ((·.1) ∘ plP)).Nodup := asc_nodup (badN_asc h).2
def RPosed (CI CO CJ : Addr) (ds : List Dat) (r : Res) : Prop := ∃ (st : Sta) (pl : List Pl), ds = [.d (stD st), .u (pl.map plD)] ∧ Gd st ∧ pl.length ≤ 100000 ∧ (∀ p ∈ pl, PlOk p) ∧ ((badN st.bs (-1) (pl.map (·.1)) = true ∧ r = .err CI) ∨ (badN st.bs (-1) (pl.map (·.1)) = false ∧ ((chkM (newS st pl) = 0 ∧ r = .ok (.d (stD (newS st pl)))) ∨ (chkM (newS st pl) = 3 ∧ r = .err CO) ∨ (chkM (newS st pl) = 4 ∧ r = .err CJ))))
def negF (a : F) : F := (0 - a.1, a.2)
theorem neg_eq {D B : Nat} {a : F} (h : Sm D B a) : negF a = minusM (0, 1) a := by
  have n : Nrm (negF a) := by
    have := FR.neg_nrm h.nrm
    unfold negF
    rw [Int.zero_sub]
    exact this
  refine vl_inj n (minus_nrm (sm_c0 (D := 1) (B := 0)).nrm h.nrm) ?_
  rw [vl_minus (sm_c0 (D := 1) (B := 0)).nrm h.nrm, vl_zero]
  unfold negF vl
  rw [Int.zero_sub, Rat.intCast_neg]
  grind
def rowE (k : Int) (ys : List Bd) (x : Bd) : List FEd := ys.map fun y => (x.nm, y.nm, minusM (posK y k) (posK x k))
def eachF (k : Int) (xs : List Bd) : List FEd := xs.flatMap (rowE k xs)
def limL (s : Sta) (k a b : Int) (gp : F) : List FEd := s.js.flatMap (jE k) ++ eachF k (fixM s) ++ [(a, b, gp), (b, a, minusM (0, 1) gp)]
abbrev i3D := ieD
abbrev iv3 := ivs
def canB (s : Sta) (k a b : Int) (gp : F) : Bool := PM.can ((limL s k a b gp).map i3D) ((nmsM s).length + 1) (fun _ => 0)
def viF (v : Int → F) (e : FEd) : Bool := less (plusM (v e.1) e.2.2) (v e.2.1)
def rxF (v : Int → F) (e : FEd) : Int → F := if viF v e = true then putF v e.2.1 (plusM (v e.1) e.2.2) else v
def rndF (es : List FEd) (v : Int → F) : Int → F := es.foldl rxF v
theorem iv3_put {v : Int → F} {b : Int} {r : F} : iv3 (putF v b r) = PM.put (iv3 v) b (iv 300 r) := by
  funext x
  show iv 300 (if x = b then r else v x) = if x = b then iv 300 r else iv 300 (v x)
  split <;> rfl
theorem vi_iv {B C : Nat} {v : Int → F} {e : FEd} (sn : Sm 300 C e.2.2) (hv : ∀ x, Sm 300 B (v x)) : PM.viol (iv3 v) (i3D e) = viF v e := by
  unfold viF PM.viol
  rw [iv_lt (by decide) ((hv e.1).plus sn) (hv e.2.1), iv_plus (hv e.1) sn]
theorem rx_iv {B C : Nat} {v : Int → F} {e : FEd} (sn : Sm 300 C e.2.2) (hv : ∀ x, Sm 300 B (v x)) : iv3 (rxF v e) = PM.rx (iv3 v) (i3D e) := by
  unfold rxF PM.rx
  rw [vi_iv sn hv]
  split
  · rw [iv3_put, iv_plus (hv e.1) sn]
  · rfl
theorem rx_ok {m : Nat} {v : Int → F} {e : FEd} (sn : Sm 300 40000 e.2.2) (hv : ∀ x, Sm 300 (m * 40000) (v x)) (x : Int) : Sm 300 ((m + 1) * 40000) (rxF v e x) := by
  have h : m * 40000 + 40000 = (m + 1) * 40000 := by omega
  unfold rxF
  split
  · unfold putF
    split
    · rw [← h]
      exact (hv e.1).plus sn
    · exact (hv x).up (by omega)
  · exact (hv x).up (by omega)
theorem rndF_ok : ∀ {es : List FEd} {m : Nat} {v : Int → F}, (∀ e ∈ es, Sm 300 40000 e.2.2) → (∀ x, Sm 300 (m * 40000) (v x)) → ∀ x, Sm 300 ((m + es.length) * 40000) (rndF es v x)
  | [], _, _, _, hv, x => hv x
  | e :: es, m, v, hs, hv, x => by
    have := rndF_ok (es := es) (m := m + 1) (v := rxF v e) (fun f hf => hs f (List.mem_cons_of_mem _ hf)) (rx_ok (hs e List.mem_cons_self) hv) x
    exact this.up (Nat.mul_le_mul_right _ (by rw [List.length_cons]; omega))
theorem rndF_iv : ∀ {es : List FEd} {m : Nat} {v : Int → F}, (∀ e ∈ es, Sm 300 40000 e.2.2) → (∀ x, Sm 300 (m * 40000) (v x)) → iv3 (rndF es v) = PM.rnd (es.map i3D) (iv3 v)
  | [], _, _, _, _ => rfl
  | e :: es, m, v, hs, hv => by
    show iv3 (rndF es (rxF v e)) = PM.rnd (es.map i3D) (PM.rx (iv3 v) (i3D e))
    rw [rndF_iv (es := es) (m := m + 1) (fun f hf => hs f (List.mem_cons_of_mem _ hf)) (rx_ok (hs e List.mem_cons_self) hv), rx_iv (hs e List.mem_cons_self) hv]
def RCan (ds : List Dat) (d : Dat) : Prop := ∃ (st : Sta) (k one other : Int) (gp : F), ds = [.d (stD st), .i k, .i one, .i other, .d (fr gp)] ∧ Gd st ∧ st.bs.length ≤ 6 ∧ st.js.length ≤ 6 ∧ (k = 0 ∨ k = 1) ∧ one ∈ nmsM st ∧ other ∈ nmsM st ∧ Sm 300 40000 gp ∧ d = .b (canB st k one other gp)
theorem fix_law {s : Sta} (hg : Gd s) : (s.bs.filter fun b => decide (b.ms = 0)).map bdD = (fixM s).map bdD := by
  congr 1
  refine List.filter_congr fun b hb => ?_
  have h2 := (chk_0 hg.good).2.1
  have key : ∀ {bs : List Bd} {bf : Int}, badB bf bs = false → ∀ b ∈ bs, soundM b = true := by
    intro bs
    induction bs with
    | nil => intro _ _ b hb; cases hb
    | cons x bs ih =>
      intro bf h b hb
      have h : (bad1 bf x || badB x.nm bs) = false := h
      rw [Bool.or_eq_false_iff] at h
      rcases List.mem_cons.mp hb with rfl | hb
      · have h1 := h.1
        unfold bad1 at h1
        rw [Bool.or_eq_false_iff, Bool.or_eq_false_iff] at h1
        simpa using h1.2.2
      · exact ih h.2 b hb
  have sd := key h2 b hb
  unfold soundM at sd
  have n0 : ¬ b.ms < 0 := fun z => by
    rw [decide_eq_true z] at sd
    simp at sd
  by_cases c : b.ms = 0
  · rw [decide_eq_true c, decide_eq_false (by omega)]
    rfl
  · rw [decide_eq_false c, decide_eq_true (by omega)]
    rfl
theorem lim_in {s : Sta} {k a b : Int} {gp : F} {e : FEd} (h : e ∈ limL s k a b gp) : (∃ j ∈ s.js, j.k = k ∧ (e = (j.a, j.b, j.hi) ∨ e = (j.b, j.a, minusM (0, 1) j.lo))) ∨ (∃ x ∈ fixM s, ∃ y ∈ fixM s, e = (x.nm, y.nm, minusM (posK y k) (posK x k))) ∨ e = (a, b, gp) ∨ e = (b, a, minusM (0, 1) gp) := by
  unfold limL at h
  rcases List.mem_append.mp h with h | h
  · rcases List.mem_append.mp h with h | h
    · obtain ⟨j, hj, he⟩ := List.mem_flatMap.mp h
      unfold jE at he
      split at he
      · rename_i c
        refine .inl ⟨j, hj, c, ?_⟩
        rcases List.mem_cons.mp he with rfl | he
        · exact .inl rfl
        · exact .inr (List.mem_singleton.mp he)
      · cases he
    · unfold eachF at h
      obtain ⟨x, hx, h⟩ := List.mem_flatMap.mp h
      obtain ⟨y, hy, rfl⟩ := List.mem_map.mp h
      exact .inr (.inl ⟨x, hx, y, hy, rfl⟩)
  · rcases List.mem_cons.mp h with rfl | h
    · exact .inr (.inr (.inl rfl))
    · exact .inr (.inr (.inr (List.mem_singleton.mp h)))
section
variable {s : Sta} {k one other : Int} {gp : F} (hg : Gd s) (hk : k = 0 ∨ k = 1)
include hg hk
theorem lim_ends (m1 : one ∈ nmsM s) (m2 : other ∈ nmsM s) : ∀ e ∈ limL s k one other gp, e.1 ∈ nmsM s ∧ e.2.1 ∈ nmsM s := by
  intro e he
  rcases lim_in he with ⟨j, hj, _, h⟩ | ⟨x, hx, y, hy, rfl⟩ | rfl | rfl
  · have l := hg.ends (j.a, j.b) (List.mem_map.mpr ⟨j, hj, rfl⟩)
    rcases h with rfl | rfl
    · exact l
    · exact ⟨l.2, l.1⟩
  · exact ⟨List.mem_map.mpr ⟨x, (List.mem_filter.mp hx).1, rfl⟩, List.mem_map.mpr ⟨y, (List.mem_filter.mp hy).1, rfl⟩⟩
  · exact ⟨m1, m2⟩
  · exact ⟨m2, m1⟩
theorem lim_sm (sg : Sm 300 40000 gp) : ∀ e ∈ limL s k one other gp, Sm 300 40000 e.2.2 := by
  intro e he
  rcases lim_in he with ⟨j, hj, _, h⟩ | ⟨x, hx, y, hy, rfl⟩ | rfl | rfl
  · have J := hg.js j hj
    rcases h with rfl | rfl
    · exact J.hi.mono (by decide) (by decide)
    · exact ((sm_c0 (D := 6) (B := 0)).minus J.lo).mono (by decide) (by decide)
  · exact ((pos_sm hg hk (List.mem_filter.mp hy).1).minus (pos_sm hg hk (List.mem_filter.mp hx).1)).mono (by decide) (by decide)
  · exact sg
  · exact ((sm_c0 (D := 300) (B := 0)).minus sg).up (by decide)
end
theorem e_isO {K : PySem.W.Frag} {te : TE} {ρ : Rho} {I J : Asn} {es fs : List PyData} (h : EO K te ρ I es J) (e : es = fs) : EO K te ρ I fs J := e ▸ h
def RCls4 (CI CA CJ CO : Addr) (D : Addr) (d : Dat) : Prop := (D = CI ∧ d = .d (.str "id")) ∨ (D = CA ∧ d = .d (.str "axis")) ∨ (D = CJ ∧ d = .d (.str "joint")) ∨ (D = CO ∧ d = .d (.str "over"))
def RTold43 (ds : List Dat) (d : Dat) : Prop := ∃ st : Sta, Gd st ∧ ((∃ a b k : Int, ds = [.i 0, .d (stD st), .i a, .i b, .i k] ∧ (((a ∉ nmsM st ∨ b ∉ nmsM st) ∧ d = .d (.str "id")) ∨ (a ∈ nmsM st ∧ b ∈ nmsM st ∧ ¬(k = 0 ∨ k = 1) ∧ d = .d (.str "axis")) ∨ (a ∈ nmsM st ∧ b ∈ nmsM st ∧ (k = 0 ∨ k = 1) ∧ d = .d (playM st a b k)))) ∨
  (∃ pl : List Pl, ds = [.i 1, .d (stD st), .u (pl.map plD), .i 0, .i 0] ∧ pl.length ≤ 100000 ∧ (∀ p ∈ pl, PlOk p) ∧ ((badN st.bs (-1) (pl.map (·.1)) = true ∧ d = .d (.str "id")) ∨ (badN st.bs (-1) (pl.map (·.1)) = false ∧ ((chkM (newS st pl) = 0 ∧ d = .d (stD (newS st pl))) ∨ (chkM (newS st pl) = 3 ∧ d = .d (.str "over")) ∨ (chkM (newS st pl) = 4 ∧ d = .d (.str "joint")))))))
theorem sm_int {D B : Nat} {n : Int} (h : n.natAbs ≤ B) : Sm D B (n, 1) := by
  have e : vl (n, 1) = (n : Rat) := by unfold vl; grind
  refine ⟨⟨by show (0 : Int) < 1; decide, by show Int.gcd n 1 = 1; simp⟩, ⟨n * D, by rw [e, Rat.intCast_mul]⟩, ?_, ?_⟩
  · rw [e, ← Rat.intCast_neg]
    exact Rat.intCast_le_intCast.mpr (by omega)
  · rw [e]
    exact Rat.intCast_le_intCast.mpr (by omega)
theorem s50p : Sm 300 1 (1, 50) := by
  have h := sm_lf (D := 300) (B := 1) (x := 1) (y := 50) (by decide) (by decide) (by decide)
  have e : lf 1 50 = (1, 50) := by decide +kernel
  rw [e] at h
  exact h
theorem s50n : Sm 300 1 (-1, 50) := by
  have h := sm_lf (D := 300) (B := 1) (x := -1) (y := 50) (by decide) (by decide) (by decide)
  have e : lf (-1) 50 = (-1, 50) := by decide +kernel
  rw [e] at h
  exact h
theorem iv50p : iv 300 (1, 50) = 6 := by decide +kernel
theorem iv50n : iv 300 (-1, 50) = -6 := by decide +kernel
section
variable {s : Sta} {k a b : Int} (hg : Gd s) (hk : k = 0 ∨ k = 1)
include hg hk
theorem each_chain {y : Int → Int} : PM.Feas ((eachF k (fixM s)).map ieD) y ↔ PM.Feas ((chF k (fixM s)).map ieD) y := by
  have hf : ∀ x ∈ fixM s, Sm 300 400 (posK x k) := fun x hx => pos_s3 hg hk (List.mem_filter.mp hx).1
  generalize fixM s = fs at hf
  let ps : List (Int × Int) := fs.map fun x => (x.nm, iv 300 (posK x k))
  have e1 : (eachF k fs).map ieD = PM.each ps := by
    show (fs.flatMap (rowE k fs)).map ieD = (fs.map _).flatMap _
    rw [List.map_flatMap, List.flatMap_map]
    have : ∀ l : List Bd, (∀ x ∈ l, x ∈ fs) → l.flatMap (fun x => (rowE k fs x).map ieD) = l.flatMap fun x => ps.map fun q => (x.nm, q.1, q.2 - iv 300 (posK x k)) := by
      intro l
      induction l with
      | nil => exact fun _ => rfl
      | cons x l ih =>
        intro hl
        rw [List.flatMap_cons, List.flatMap_cons, ih fun z hz => hl z (List.mem_cons_of_mem _ hz)]
        congr 1
        unfold rowE
        show ((fs.map _).map ieD) = (fs.map _).map _
        rw [List.map_map, List.map_map]
        refine List.map_congr_left fun z hz => ?_
        show (x.nm, z.nm, iv 300 (minusM (posK z k) (posK x k))) = (x.nm, z.nm, iv 300 (posK z k) - iv 300 (posK x k))
        rw [iv_minus (hf z hz) (hf x (hl x List.mem_cons_self))]
    exact this fs fun x hx => hx
  have e2 : ∀ {xs : List Bd}, (∀ x ∈ xs, Sm 300 400 (posK x k)) → (chF k xs).map ieD = PM.chain (xs.map fun x => (x.nm, iv 300 (posK x k))) := by
    intro xs
    induction xs with
    | nil => exact fun _ => rfl
    | cons x xs ih =>
      intro h
      cases xs with
      | nil => rfl
      | cons z zs =>
        have hx := h x (by simp)
        have hz := h z (by simp)
        have i := ih fun u hu => h u (List.mem_cons_of_mem _ hu)
        show ieD (x.nm, z.nm, minusM (posK z k) (posK x k)) :: ieD (z.nm, x.nm, minusM (0, 1) (minusM (posK z k) (posK x k))) :: (chF k (z :: zs)).map ieD = (x.nm, z.nm, iv 300 (posK z k) - iv 300 (posK x k)) :: (z.nm, x.nm, iv 300 (posK x k) - iv 300 (posK z k)) :: PM.chain ((z :: zs).map fun x => (x.nm, iv 300 (posK x k)))
        rw [i]
        have q1 : ieD (x.nm, z.nm, minusM (posK z k) (posK x k)) = (x.nm, z.nm, iv 300 (posK z k) - iv 300 (posK x k)) := by
          show (x.nm, z.nm, iv 300 (minusM (posK z k) (posK x k))) = _
          rw [iv_minus hz hx]
        have q2 : ieD (z.nm, x.nm, minusM (0, 1) (minusM (posK z k) (posK x k))) = (z.nm, x.nm, iv 300 (posK x k) - iv 300 (posK z k)) := by
          show (z.nm, x.nm, iv 300 (minusM (0, 1) (minusM (posK z k) (posK x k)))) = _
          rw [iv_minus (sm_c0 (D := 300) (B := 0)) (hz.minus hx), iv_minus hz hx, iv_zero]
          congr 2
          omega
        rw [q1, q2]
  rw [e1, e2 hf]
  exact PM.chain_each.symm
theorem can_iff {gp : F} (ma : a ∈ nmsM s) (mb : b ∈ nmsM s) (sg : Sm 300 40000 gp) : canB s k a b gp = true ↔ ∃ y, PM.Feas ((bndM s k).map ieD) y ∧ y b - y a = iv 300 gp := by
  unfold canB
  rw [PM.can_iff (ns := nmsM s) (fun e he => by
    obtain ⟨f, hf, rfl⟩ := List.mem_map.mp he
    exact lim_ends hg hk ma mb f hf) (Nat.le_refl _)]
  refine exists_congr fun y => ?_
  unfold limL bndM
  rw [List.map_append, List.map_append, List.map_append, PM.feas_app, PM.feas_app, PM.feas_app, each_chain hg hk]
  have e : [(a, b, gp), (b, a, minusM (0, 1) gp)].map i3D = PM.fix a b (iv 300 gp) := by
    show [(a, b, iv 300 gp), (b, a, iv 300 (minusM (0, 1) gp))] = [(a, b, iv 300 gp), (b, a, -iv 300 gp)]
    rw [iv_minus (sm_c0 (D := 300) (B := 0)) sg, iv_zero, Int.zero_sub]
  rw [e, PM.feas_fix]
theorem ends_hi (ma : a ∈ nmsM s) (mb : b ∈ nmsM s) (c : b ∈ (mostM (bndM s k) a).ks) : canB s k a b ((mostM (bndM s k) a).v b) = true ∧ ∀ gp, Sm 300 40000 gp → iv 300 ((mostM (bndM s k) a).v b) < iv 300 gp → canB s k a b gp = false := by
  have mka := mk_good hg hk ma
  have M := (most_mi mka).src
  refine ⟨(can_iff hg hk ma mb ((most_sm mka c).up (by decide))).mpr ?_, fun gp sg lt => Bool.eq_false_iff.mpr fun z => ?_⟩
  · obtain ⟨y, hy, he⟩ := PM.done_ext mka.fs (most_done mka)
    refine ⟨y, hy, ?_⟩
    rw [he b c, he a M.hs, M.p0]
    show iv 300 _ - 0 = _
    omega
  · obtain ⟨y, hy, e⟩ := (can_iff hg hk ma mb sg).mp z
    have := M.low y hy b c
    have : y b - y a ≤ iv 300 ((mostM (bndM s k) a).v b) := this
    omega
theorem ends_lo (ma : a ∈ nmsM s) (mb : b ∈ nmsM s) (c : b ∈ (mostM (bndM s k) a).ks) : canB s k a b (minusM (0, 1) ((mostM (bndM s k) b).v a)) = true ∧ ∀ gp, Sm 300 40000 gp → iv 300 gp < iv 300 (minusM (0, 1) ((mostM (bndM s k) b).v a)) → canB s k a b gp = false := by
  have mkb := mk_good hg hk mb
  have c2 := most_back hg hk ma mb c
  have M := (most_mi mkb).src
  have sv := most_sm mkb c2
  have ee : iv 300 (minusM (0, 1) ((mostM (bndM s k) b).v a)) = - iv 300 ((mostM (bndM s k) b).v a) := by rw [iv_minus (sm_c0 (D := 300) (B := 0)) sv, iv_zero, Int.zero_sub]
  refine ⟨(can_iff hg hk ma mb (((sm_c0 (D := 300) (B := 0)).minus sv).up (by decide))).mpr ?_, fun gp sg lt => Bool.eq_false_iff.mpr fun z => ?_⟩
  · obtain ⟨y, hy, he⟩ := PM.done_ext mkb.fs (most_done mkb)
    refine ⟨y, hy, ?_⟩
    rw [he a c2, he b M.hs, M.p0, ee]
    show 0 - iv 300 _ = _
    omega
  · obtain ⟨y, hy, e⟩ := (can_iff hg hk ma mb sg).mp z
    have := M.low y hy a c2
    have : y a - y b ≤ iv 300 ((mostM (bndM s k) b).v a) := this
    rw [ee] at lt
    omega
theorem ends_free (ma : a ∈ nmsM s) (mb : b ∈ nmsM s) (c : b ∉ (mostM (bndM s k) a).ks) {gp : F} (sg : Sm 300 40000 gp) : canB s k a b gp = true := by
  have mka := mk_good hg hk ma
  refine (can_iff hg hk ma mb sg).mpr (PM.done_free mka.fs (most_done mka) (fun e he => ?_) (most_mi mka).src.hs c _)
  obtain ⟨f, hf, rfl⟩ := List.mem_map.mp he
  obtain ⟨n, hn⟩ := bnd_back hf
  exact ⟨_, List.mem_map.mpr ⟨_, hn, rfl⟩⟩
end
def RLEnds (ds : List Dat) (d : Dat) : Prop := ∃ (st : Sta) (k a b : Int), ds = [.d (stD st), .i k, .i a, .i b, .d (playM st a b k)] ∧ Gd st ∧ st.bs.length ≤ 6 ∧ st.js.length ≤ 6 ∧ (k = 0 ∨ k = 1) ∧ a ∈ nmsM st ∧ b ∈ nmsM st ∧ d = .b true
def anyL (bs : List Bd) (i : Nat) (x : Bd) : List Bool := (bs.take i).map fun o => pairM lt0 x.bx o.bx
theorem anyL_at {bs : List Bd} {i jj : Nat} {x o : Bd} (h : (bs.take i)[jj]? = some o) {y : PyData} (hy : ((anyL bs i x).map PyData.bool)[jj]? = some y) : y = .bool (pairM lt0 x.bx o.bx) := by
  unfold anyL at hy
  rw [List.getElem?_map, List.getElem?_map, h] at hy
  exact (Option.some.inj hy).symm
theorem anyL_len {bs : List Bd} {i : Nat} {x : Bd} : (anyL bs i x).length = (bs.take i).length := List.length_map _
theorem posK_ok {b : Bd} {k : Int} (h : BdOk b) : PL.Ok 1500 (posK b k) := by
  unfold posK
  split
  · exact h.bx.p0
  · exact h.bx.p1
theorem plcM_snoc {a : List Bd} {z : Bd} : plcM (a ++ [z]) = plcM a ++ [(.inl z.nm, vcd z.bx.p0 z.bx.p1)] := by
  unfold plcM PL.kvsOf
  rw [List.map_append, List.map_append, List.zip_append (by rw [List.length_map, List.length_map]), List.map_append]
  rfl
theorem ovB_app : ∀ {xs : List Bx} {z : Bx}, ovB (xs ++ [z]) = (ovB xs || xs.any fun o => pairM lt0 z o)
  | [], z => rfl
  | x :: xs, z => by
    show ((xs ++ [z]).any (pairM lt0 x) || ovB (xs ++ [z])) = ((xs.any (pairM lt0 x) || ovB xs) || (pairM lt0 z x || xs.any fun o => pairM lt0 z o))
    rw [ovB_app, List.any_append, pair_comm lt0 z x]
    show ((xs.any (pairM lt0 x) || (pairM lt0 x z || false)) || (ovB xs || _)) = _
    cases xs.any (pairM lt0 x) <;> cases pairM lt0 x z <;> cases ovB xs <;> cases (xs.any fun o => pairM lt0 z o) <;> rfl
theorem ovB_take {bs : List Bd} {i : Nat} {x : Bd} (h : bs[i]? = some x) : ovB ((bs.take (i + 1)).map (·.bx)) = (ovB ((bs.take i).map (·.bx)) || (anyL bs i x).any id) := by
  unfold anyL
  rw [List.take_add_one, h, List.map_append]
  show ovB ((bs.take i).map (·.bx) ++ [x.bx]) = _
  rw [ovB_app, List.any_map, List.any_map]
  rfl
theorem ovB_pre {bs : List Bd} {n : Nat} (h : ovB (bs.map (·.bx)) = false) : ovB ((bs.take n).map (·.bx)) = false := by
  have key : ∀ {xs ys : List Bx}, ovB (xs ++ ys) = false → ovB xs = false := by
    intro xs
    induction xs with
    | nil => exact fun _ => rfl
    | cons x xs ih =>
      intro ys h
      have h : ((xs ++ ys).any (pairM lt0 x) || ovB (xs ++ ys)) = false := h
      rw [Bool.or_eq_false_iff, List.any_append, Bool.or_eq_false_iff] at h
      show (xs.any (pairM lt0 x) || ovB xs) = false
      rw [h.1.1, ih h.2]
      rfl
  refine key (ys := (bs.drop n).map (·.bx)) ?_
  rw [← List.map_append, List.take_append_drop]
  exact h
theorem new_nms {s : Sta} {pl : List Pl} : (newS s pl).bs.map (·.nm) = nmsM s := by
  show (s.bs.map (mvB pl)).map (·.nm) = _
  rw [List.map_map]
  rfl
theorem new_fnd {bs : List Bd} {pl : List Pl} {n : Int} : fnd (bs.map (mvB pl)) n = (fnd bs n).map (mvB pl) := by
  induction bs with
  | nil => rfl
  | cons b bs ih =>
    unfold fnd at ih ⊢
    rw [List.map_cons]
    by_cases c : b.nm = n
    · rw [List.find?_cons, List.find?_cons, show decide ((mvB pl b).nm = n) = true from decide_eq_true c, show decide (b.nm = n) = true from decide_eq_true c]
      rfl
    · rw [List.find?_cons, List.find?_cons, show decide ((mvB pl b).nm = n) = false from decide_eq_false c, show decide (b.nm = n) = false from decide_eq_false c]
      exact ih
theorem new_jt {s : Sta} {pl : List Pl} {j : Jt} (hg : Gd s) (hp : ∀ p ∈ pl, PlOk p) (hj : j ∈ s.js) : ∃ x y, fnd (newS s pl).bs j.a = some x ∧ fnd (newS s pl).bs j.b = some y ∧ (j.k = 0 ∨ j.k = 1) ∧ PL.Ok 20 j.lo ∧ PL.Ok 20 j.hi ∧ jbad (newS s pl).bs j = (less (wayM x y j.k) j.lo || less j.hi (wayM x y j.k)) := by
  obtain ⟨x, y, fa, fb, ne, ⟨hk, h2⟩, _⟩ := jbad_no (hg.jt hj)
  have J := hg.js j hj
  have fa2 : fnd (newS s pl).bs j.a = some (mvB pl x) := by
    show fnd (s.bs.map (mvB pl)) j.a = _
    rw [new_fnd, fa]
    rfl
  have fb2 : fnd (newS s pl).bs j.b = some (mvB pl y) := by
    show fnd (s.bs.map (mvB pl)) j.b = _
    rw [new_fnd, fb]
    rfl
  refine ⟨mvB pl x, mvB pl y, fa2, fb2, hk, J.okl, J.hi.ok (by decide) (by decide) (by decide), ?_⟩
  have okn := new_ok hg hp
  have px := posK_ok (k := j.k) (okn.bs _ (fnd_mem fa2))
  have py := posK_ok (k := j.k) (okn.bs _ (fnd_mem fb2))
  have W : Nrm (wayM (mvB pl x) (mvB pl y) j.k) := by rw [way_pos]; exact minus_nrm py.nrm px.nrm
  unfold jbad
  rw [fa2, fb2]
  show (decide (j.a = j.b) || (_ || (decide (cmpM (wayM (mvB pl x) (mvB pl y) j.k) j.lo < 0) || decide (0 < cmpM (wayM (mvB pl x) (mvB pl y) j.k) j.hi)))) = _
  rw [decide_eq_false ne, h2, Bool.false_or, Bool.false_or, gt0_vl W J.hi.nrm, ← less_vl J.hi.nrm.1 W.1]
  have e : decide (cmpM (wayM (mvB pl x) (mvB pl y) j.k) j.lo < 0) = less (wayM (mvB pl x) (mvB pl y) j.k) j.lo := by
    have := lt0_vl W J.lo.nrm
    rw [← less_vl W.1 J.lo.nrm.1] at this
    exact this
  rw [e]
theorem new_bad {s : Sta} {pl : List Pl} (hg : Gd s) : largeM (newS s pl) = false ∧ badB (-1) (newS s pl).bs = false := by
  obtain ⟨h1, h2, _⟩ := chk_0 hg.good
  constructor
  · unfold largeM at h1 ⊢
    show (decide (24 < (((s.bs.map (mvB pl)).length : Nat) : Int)) || _) = false
    rw [List.length_map]
    exact h1
  · have key : ∀ {bs : List Bd} {bf : Int}, badB bf bs = false → badB bf (bs.map (mvB pl)) = false := by
      intro bs
      induction bs with
      | nil => exact fun _ => rfl
      | cons b bs ih =>
        intro bf h
        have h : (bad1 bf b || badB b.nm bs) = false := h
        rw [Bool.or_eq_false_iff] at h
        show (bad1 bf (mvB pl b) || badB b.nm (bs.map (mvB pl))) = false
        rw [show bad1 bf (mvB pl b) = bad1 bf b from rfl, h.1, ih h.2]
        rfl
    exact key h2
theorem new_chk {s : Sta} {pl : List Pl} (hg : Gd s) : chkM (newS s pl) = if ovB ((newS s pl).bs.map (·.bx)) = true then 3 else if s.js.any (jbad (newS s pl).bs) = true then 4 else 0 := by
  obtain ⟨h1, h2⟩ := new_bad (pl := pl) hg
  unfold chkM
  rw [h1, h2]
  rfl
def posedD (s : Sta) (pl : List Pl) : PyData := if chkM (newS s pl) = 3 then .str "over" else if chkM (newS s pl) = 4 then .str "joint" else stD (newS s pl)
theorem posed_eq {s : Sta} {pl : List Pl} (hg : Gd s) : posedD s pl = if ovB ((newS s pl).bs.map (·.bx)) = true then .str "over" else if s.js.any (jbad (newS s pl).bs) = true then .str "joint" else stD (newS s pl) := by
  unfold posedD
  rw [new_chk hg]
  cases ovB ((newS s pl).bs.map (·.bx)) <;> cases s.js.any (jbad (newS s pl).bs) <;> rfl
def RLPosed (ds : List Dat) (d : Dat) : Prop := ∃ (st : Sta) (pl : List Pl), ds = [.d (stD st), .d (.list (pl.map plD))] ∧ Gd st ∧ pl.length ≤ 1000 ∧ (pl.map (·.1)).Nodup ∧ (∀ p ∈ pl, PlOk p) ∧ d = .d (posedD st pl)
def RLGroups (ds : List Dat) (d : Dat) : Prop := ∃ st : Sta, ds = [.d (stD st)] ∧ Gd st ∧ d = .d (limbsM st)
theorem gd_of {bs : List Bd} {js : List Jt} {m : Nat} (hb : BsN 6 bs) (hm : m ≤ 6) (hj : JsN m bs js) : Gd ⟨bs, js, (0, 1), (0, 1)⟩ := by
  have l1 := hb.len
  have l2 := hj.len
  have big : 6 < 2 ^ 3500 := Nat.lt_of_lt_of_le (show 6 < 2 ^ 20 by decide) (Nat.pow_le_pow_right (by decide) (by decide))
  have big2 : 802 * 6 < 2 ^ 3500 := Nat.lt_of_lt_of_le (show 802 * 6 < 2 ^ 20 by decide) (Nat.pow_le_pow_right (by decide) (by decide))
  refine ⟨⟨fun b h => (hb.ok b h).ok (by decide), fun j h => ⟨(hj.ok j h).lo.ok (by decide) big big2, (hj.ok j h).hi.ok (by decide) big big2⟩, by show bs.length ≤ 100000; omega, ok_c0 (by decide), ok_c0 (by decide)⟩, ?_, fun b h => (hb.ok b h).mono (by decide), hj.ok⟩
  unfold chkM largeM
  show (if (decide (24 < ((bs.length : Nat) : Int)) || decide (24 < ((js.length : Nat) : Int))) = true then 1 else _) = 0
  rw [decide_eq_false (show ¬ 24 < ((bs.length : Nat) : Int) by omega), decide_eq_false (show ¬ 24 < ((js.length : Nat) : Int) by omega), show badB (-1) (Sta.mk bs js (0, 1) (0, 1)).bs = false from hb.bad, show ovB ((Sta.mk bs js (0, 1) (0, 1)).bs.map (·.bx)) = false from hb.ov, show (Sta.mk bs js (0, 1) (0, 1)).js.any (jbad (Sta.mk bs js (0, 1) (0, 1)).bs) = false from hj.good]
  rfl
theorem iv_null {D B : Nat} {a : F} (hD : 0 < D) (h : Sm D B a) (h0 : iv D a = 0) : a = (0, 1) := by
  refine vl_inj h.nrm nrm_zero ?_
  have e := iv_vl h
  rw [h0] at e
  rw [vl_zero]
  have d : ((D : Int) : Rat) ≠ 0 := by
    intro z
    have : ((D : Int) : Rat) = ((0 : Int) : Rat) := by rw [z]; rfl
    have := Rat.intCast_inj.mp this
    omega
  grind
theorem play_same {s : Sta} {a k : Int} (hg : Gd s) (hk : k = 0 ∨ k = 1) (ha : a ∈ nmsM s) : playM s a a k = .tuple [fr (0, 1), fr (0, 1)] := by
  have mk := mk_good hg hk ha
  have hs := (most_mi mk).src.hs
  have v0 : (mostM (bndM s k) a).v a = (0, 1) := iv_null (by decide) (most_sm mk hs) (most_mi mk).src.p0
  unfold playM
  rw [if_pos hs, v0]
  have e : minusM (0, 1) (0, 1) = ((0, 1) : F) := by decide +kernel
  rw [e]
theorem play_two (s : Sta) (a b k : Int) : ∃ x y : PyData, playM s a b k = .tuple [x, y] := by
  unfold playM
  split
  · exact ⟨_, _, rfl⟩
  · exact ⟨_, _, rfl⟩
theorem depth_all {xs : List PyData} {n : Nat} (h : ∀ x ∈ xs, x.depth ≤ n) : PyData.depthAll xs ≤ n := by
  induction xs with
  | nil => exact Nat.zero_le _
  | cons m ms ih =>
    have ih := ih fun x hx => h x (List.mem_cons_of_mem _ hx)
    show max m.depth (PyData.depthAll ms) ≤ n
    have := h m List.mem_cons_self
    omega
theorem lay_tup {xs : List PyData} {n : Nat} (h : ∀ x ∈ xs, x.canLay0 = true ∧ x.depth ≤ n) : (PyData.tuple xs).canLay0 = true ∧ (PyData.tuple xs).depth ≤ n + 1 := by
  refine ⟨L2.canAll fun d hd => (h d hd).1, ?_⟩
  have := depth_all fun x hx => (h x hx).2
  show PyData.depthAll xs + 1 ≤ n + 1
  omega
theorem shaped_of {x : PyData} {n : Nat} (h : x.canLay0 = true ∧ x.depth ≤ n) (hn : n ≤ 64) : SeqAt.shaped x = true := by
  unfold SeqAt.shaped
  rw [Bool.and_eq_true, decide_eq_true_iff]
  exact ⟨h.1, Nat.le_trans h.2 hn⟩
theorem eqv_self {x : PyData} (h : SeqAt.shaped x = true) : PyData.eqv x x = true := SeqAt.eqv_refl x (SeqAt.canLay_of_shaped h)
theorem lay_int (n : Int) : (PyData.int n).canLay0 = true ∧ (PyData.int n).depth ≤ 0 := ⟨rfl, by simp [PyData.depth]⟩
theorem lay_fr (a : F) : (fr a).canLay0 = true ∧ (fr a).depth ≤ 1 := lay_tup fun x hx => by
  rcases List.mem_cons.mp hx with rfl | hx
  · exact lay_int _
  · rw [List.mem_singleton.mp hx]
    exact lay_int _
theorem lay_v (a b : F) : (vcd a b).canLay0 = true ∧ (vcd a b).depth ≤ 2 := lay_tup fun x hx => by
  rcases List.mem_cons.mp hx with rfl | hx
  · exact lay_fr _
  · rw [List.mem_singleton.mp hx]
    exact lay_fr _
theorem lay_up {x : PyData} {m n : Nat} (h : x.canLay0 = true ∧ x.depth ≤ m) (hn : m ≤ n) : x.canLay0 = true ∧ x.depth ≤ n := ⟨h.1, Nat.le_trans h.2 hn⟩
theorem lay_bd (b : Bd) : (bdD b).canLay0 = true ∧ (bdD b).depth ≤ 3 := lay_tup fun x hx => by
  rcases List.mem_cons.mp hx with rfl | hx
  · exact lay_up (lay_int _) (by decide)
  rcases List.mem_cons.mp hx with rfl | hx
  · exact lay_v _ _
  rcases List.mem_cons.mp hx with rfl | hx
  · exact lay_v _ _
  rcases List.mem_cons.mp hx with rfl | hx
  · exact lay_up (lay_int _) (by decide)
  rcases List.mem_cons.mp hx with rfl | hx
  · exact lay_up (lay_fr _) (by decide)
  rw [List.mem_singleton.mp hx]
  exact lay_v _ _
theorem lay_jt (j : Jt) : (jtD j).canLay0 = true ∧ (jtD j).depth ≤ 3 := lay_tup fun x hx => by
  rcases List.mem_cons.mp hx with rfl | hx
  · exact lay_up (lay_int _) (by decide)
  rcases List.mem_cons.mp hx with rfl | hx
  · exact lay_up (lay_int _) (by decide)
  rcases List.mem_cons.mp hx with rfl | hx
  · exact lay_up (lay_int _) (by decide)
  rcases List.mem_cons.mp hx with rfl | hx
  · exact lay_up (lay_fr _) (by decide)
  rw [List.mem_singleton.mp hx]
  exact lay_up (lay_fr _) (by decide)
theorem lay_st (s : Sta) : (stD s).canLay0 = true ∧ (stD s).depth ≤ 5 := lay_tup fun x hx => by
  rcases List.mem_cons.mp hx with rfl | hx
  · refine lay_tup fun x hx => ?_
    obtain ⟨b, _, rfl⟩ := List.mem_map.mp hx
    exact lay_bd b
  rcases List.mem_cons.mp hx with rfl | hx
  · refine lay_tup fun x hx => ?_
    obtain ⟨j, _, rfl⟩ := List.mem_map.mp hx
    exact lay_jt j
  rw [List.mem_singleton.mp hx]
  exact lay_up (lay_v _ _) (by decide)
theorem shaped_limbs (s : Sta) : SeqAt.shaped (limbsM s) = true := shaped_of (n := 2) (lay_tup fun x hx => by
  obtain ⟨ns, _, rfl⟩ := List.mem_map.mp hx
  refine lay_tup fun x hx => ?_
  obtain ⟨n, _, rfl⟩ := List.mem_map.mp hx
  exact lay_int n) (by decide)
theorem sh_over : SeqAt.shaped (.str "over") = true := by decide +kernel
theorem sh_joint : SeqAt.shaped (.str "joint") = true := by decide +kernel
theorem sh_id : SeqAt.shaped (.str "id") = true := by decide +kernel
theorem sh_axis : SeqAt.shaped (.str "axis") = true := by decide +kernel
theorem shaped_posed (s : Sta) (pl : List Pl) : SeqAt.shaped (posedD s pl) = true := by
  unfold posedD
  split
  · exact sh_over
  split
  · exact sh_joint
  exact shaped_of (lay_st _) (by decide)
theorem told_posed {s : Sta} {pl : List Pl} (hg : Gd s) (hl : pl.length ≤ 100000) (hp : ∀ p ∈ pl, PlOk p) (hb : badN s.bs (-1) (pl.map (·.1)) = false) : RTold43 [.i 1, .d (stD s), .u (pl.map plD), .i 0, .i 0] (.d (posedD s pl)) := by
  refine ⟨s, hg, .inr ⟨pl, rfl, hl, hp, .inr ⟨hb, ?_⟩⟩⟩
  have e := new_chk (pl := pl) hg
  unfold posedD
  by_cases c1 : ovB ((newS s pl).bs.map (·.bx)) = true
  · rw [if_pos c1] at e
    exact .inr (.inl ⟨e, by rw [if_pos e]⟩)
  rw [if_neg c1] at e
  by_cases c2 : s.js.any (jbad (newS s pl).bs) = true
  · rw [if_pos c2] at e
    exact .inr (.inr ⟨e, by rw [if_neg (by rw [e]; decide), if_pos e]⟩)
  rw [if_neg c2] at e
  exact .inl ⟨e, by rw [if_neg (by rw [e]; decide), if_neg (by rw [e]; decide)]⟩
theorem told_bad {s : Sta} {pl : List Pl} (hg : Gd s) (hl : pl.length ≤ 100000) (hp : ∀ p ∈ pl, PlOk p) (hb : badN s.bs (-1) (pl.map (·.1)) = true) : RTold43 [.i 1, .d (stD s), .u (pl.map plD), .i 0, .i 0] (.d (.str "id")) := ⟨s, hg, .inr ⟨pl, rfl, hl, hp, .inl ⟨hb, rfl⟩⟩⟩
theorem bad_rev {bs : List Bd} {ns : List Int} (h : badN bs (-1) ns = false) (h2 : 1 < ns.length) : badN bs (-1) ns.reverse = true := by
  refine Bool.not_eq_false _ ▸ fun z => ?_
  have a := (badN_asc h).2
  have b := List.pairwise_reverse.mp (badN_asc z).2
  match ns, h2, a, b with
  | x :: y :: r, _, a, b =>
    have h1 := (List.pairwise_cons.mp a).1 y List.mem_cons_self
    have h2 := (List.pairwise_cons.mp b).1 y List.mem_cons_self
    omega
theorem bad_one {bs : List Bd} {n : Int} (h : movB bs n = false) : badN bs (-1) [n] = true := by
  show ((decide (n ≤ -1) || !movB bs n) || false) = true
  rw [h]
  simp
theorem bad_sub {bs : List Bd} {ns : List Int} (hb : badB (-1) bs = false) (h3 : ns.Sublist (mvN bs)) : badN bs (-1) ns = false := by
  have sub : (mvN bs).Sublist (bs.map (·.nm)) := List.Sublist.map _ List.filter_sublist
  have lt : ns.Pairwise (· < ·) := (badB_lt hb).sublist (h3.trans sub)
  have nd := (badB_asc hb).2
  refine badN_of lt (fun n hn => ?_) (fun n hn => ?_)
  · obtain ⟨b, hb2, rfl⟩ := List.mem_map.mp ((h3.trans sub).subset hn)
    exact (badB_asc hb).1 b hb2
  · obtain ⟨b, hb2, rfl⟩ := List.mem_map.mp (h3.subset hn)
    obtain ⟨hb3, hb4⟩ := List.mem_filter.mp hb2
    unfold movB
    rw [fnd_of nd hb3]
    exact hb4
theorem fix_head {bs : List Bd} (hb : badB (-1) bs = false) (hn : ∀ b ∈ bs, b.nm ≤ 92) : ∃ f : Int, (((bs.filter fun b => decide (b.ms = 0)).map fun b => PyData.int b.nm) ++ [.int 99])[0]? = some (.int f) ∧ movB bs f = false := by
  have nd := (badB_asc hb).2
  cases e : bs.filter fun b => decide (b.ms = 0) with
  | nil =>
    refine ⟨99, rfl, ?_⟩
    have : fnd bs 99 = none := by
      unfold fnd
      rw [List.find?_eq_none]
      intro b hb2 z
      have := hn b hb2
      have := of_decide_eq_true z
      omega
    unfold movB
    rw [this]
    rfl
  | cons b r =>
    refine ⟨b.nm, rfl, ?_⟩
    have m : b ∈ bs.filter fun b => decide (b.ms = 0) := by rw [e]; exact List.mem_cons_self
    obtain ⟨m1, m2⟩ := List.mem_filter.mp m
    have m2 := of_decide_eq_true m2
    unfold movB
    rw [fnd_of nd m1]
    show decide (0 < b.ms) = false
    exact decide_eq_false (by omega)
theorem nms99 {s : Sta} (hn : ∀ b ∈ s.bs, b.nm ≤ 92) : (99 : Int) ∉ nmsM s := fun h => by
  obtain ⟨b, hb, e⟩ := List.mem_map.mp h
  have := hn b hb
  omega
section
variable {P : Program} {w : World} {K : PySem.W.Frag} {mg : Str → Option Value} {base : Heap}
theorem fok_plus (Tp : Top K mg base) : FnOk P w K mg base CX0 1 Tp.f_plus Tp.d_plus ["a", "b"] (spP K (RPlus plusM)) := by
  refine Tp.F_plus.ok sc_plus (fun vs H Q E h => len_P (fun _ _ z => z.len) h) (fun cdv A outer s H vs Q E hr h => ?_)
  refine ⟨_, (pss_cons (ps_set (i := 2) sc_plus.nd rfl (.inl rfl) (pe_callBfun cr_gcd (by rfl) Tp.n_gcd (pa_cons (pe_ix (r := rIxT K) ix_tup (pv 0) pe_int (fun _ _ => rfl)) (pa_cons (pe_ix (r := rIxT K) ix_tup (pv 1) pe_int (fun _ _ => rfl)) pa_nil))))
      (pss_cons (ps_set (i := 3) sc_plus.nd rfl (.inl rfl) (pe_op op_fdivW (pe_ix (r := rIxT K) ix_tup (pv 0) pe_int (fun _ _ => rfl)) (pv 2)))
      (pss_cons (ps_set (i := 4) sc_plus.nd rfl (.inl rfl) (pe_op op_add (pe_op op_mulW (pe_ix (r := rIxT K) ix_tup (pv 0) pe_int (fun _ _ => rfl)) (pe_op op_fdivW (pe_ix (r := rIxT K) ix_tup (pv 1) pe_int (fun _ _ => rfl)) (pv 2))) (pe_op op_mulW (pe_ix (r := rIxT K) ix_tup (pv 1) pe_int (fun _ _ => rfl)) (pv 3))))
      (pss_cons (ps_set (i := 5) sc_plus.nd rfl (.inl rfl) (pe_callBfun cr_gcd (by rfl) Tp.n_gcd (pa_cons (pv 4) (pa_cons (pv 2) pa_nil))))
      (pss_one (ps_ret (pe_tup (pa_cons (pe_op op_fdivW (pv 4) (pv 5)) (pa_cons (pe_op op_mulW (pv 3) (pe_op op_fdivW (pe_ix (r := rIxT K) ix_tup (pv 1) pe_int (fun _ _ => rfl)) (pv 5))) pa_nil))))))))), body_P ?_ h⟩
  refine fun ds d r I => ?_
  obtain ⟨a, b, rfl, ha, hb, rfl⟩ := r
  walk_at "norm"
  have pa := ha.nrm.1
  have pb := hb.nrm.1
  
  have s0 : Int.gcd a.2 b.2 ≠ 0 := Int.gcd_ne_zero_right (by omega)
  have z1 : ((Int.gcd a.2 b.2 : Nat) : Int).natAbs < 2 ^ 4000 := sz_gcd hb.sz.2 (by omega)
  have z2 := sz_div ha.sz.2 (Int.gcd_dvd_left a.2 b.2)
  have z3 := sz_div hb.sz.2 (Int.gcd_dvd_right a.2 b.2)
  have hg : (0 : Int) < (Int.gcd a.2 b.2 : Nat) := by omega
  refine q_asg (d := .i (Int.gcd a.2 b.2 : Nat)) (by walk_at "ev") ?_
  refine q_asg (d := .i (a.2 / (Int.gcd a.2 b.2 : Nat))) (by walk_at "ev"; exact divW hg z1 (by decide)) ?_
  refine q_asg (d := .i (a.1 * (b.2 / (Int.gcd a.2 b.2 : Nat)) + b.1 * (a.2 / (Int.gcd a.2 b.2 : Nat)))) ?_ ?_
  · walk_at "ev"
    · exact divW hg z1 (by decide)
    · exact mulW ha.sz.1 z3 (by decide)
    · exact mulW hb.sz.1 z2 (by decide)
  · generalize hn : a.1 * (b.2 / (Int.gcd a.2 b.2 : Nat)) + b.1 * (a.2 / (Int.gcd a.2 b.2 : Nat)) = n
    have v0 : Int.gcd n (Int.gcd a.2 b.2 : Nat) ≠ 0 := Int.gcd_ne_zero_right (by omega)
    have zv : ((Int.gcd n (Int.gcd a.2 b.2 : Nat) : Nat) : Int).natAbs < 2 ^ 4000 := sz_gcd z1 (by omega)
    have hv : (0 : Int) < (Int.gcd n (Int.gcd a.2 b.2 : Nat) : Nat) := by omega
    have dv : ((Int.gcd n (Int.gcd a.2 b.2 : Nat) : Nat) : Int) ∣ b.2 := Int.dvd_trans (Int.gcd_dvd_right _ _) (Int.gcd_dvd_right _ _)
    refine q_asg (d := .i (Int.gcd n (Int.gcd a.2 b.2 : Nat) : Nat)) (by walk_at "ev") ?_
    refine p_ret (p_frac (x := n / (Int.gcd n (Int.gcd a.2 b.2 : Nat) : Nat)) (y := (a.2 / (Int.gcd a.2 b.2 : Nat)) * (b.2 / (Int.gcd n (Int.gcd a.2 b.2 : Nat) : Nat))) ?_ ?_)
    · walk_at "ev"
      · exact divW hv zv (by decide)
      · exact divW hv zv (by decide)
      · exact mulW z2 (sz_div hb.sz.2 dv) (by decide)
    · subst hn
      rfl
theorem fok_compare (Tp : Top K mg base) : FnOk P w K mg base CX0 1 Tp.f_compare Tp.d_compare ["a", "b"] (spP K RCmp) := by
  refine Tp.F_compare.ok sc_compare (fun vs H Q E h => len_P (fun _ _ z => by obtain ⟨_, _, e, _⟩ := z; rw [e]; rfl) h) (fun cdv A outer s H vs Q E hr h => ?_)
  refine ⟨_, (pss_cons (ps_set (i := 2) sc_compare.nd rfl (.inl rfl) (pe_op op_mulW (pe_ix (r := rIxT K) ix_tup (pv 0) pe_int (fun _ _ => rfl)) (pe_ix (r := rIxT K) ix_tup (pv 1) pe_int (fun _ _ => rfl))))
      (pss_cons (ps_set (i := 3) sc_compare.nd rfl (.inl rfl) (pe_op op_mulW (pe_ix (r := rIxT K) ix_tup (pv 1) pe_int (fun _ _ => rfl)) (pe_ix (r := rIxT K) ix_tup (pv 0) pe_int (fun _ _ => rfl))))
      (pss_cons (ps_if (pt_cmpR op_lt (pv 2) (pv 3) (nomark _)) (pss_one (ps_ret (pe_un un_neg pe_int))) pss_nil)
      (pss_cons (ps_if (pt_cmpR op_gt (pv 2) (pv 3) (nomark _)) (pss_one (ps_ret pe_int)) pss_nil)
      (pss_one (ps_ret pe_int)))))), body_P ?_ h⟩
  refine fun ds d r I => ?_
  obtain ⟨a, b, rfl, ha, hb, rfl⟩ := r
  walk_at "norm"
  refine q_asg (d := .i (a.1 * b.2)) (by walk_at "ev"; exact mulW ha.sz.1 hb.sz.2 (by decide)) ?_
  refine q_asg (d := .i (b.1 * a.2)) (by walk_at "ev"; exact mulW hb.sz.1 ha.sz.2 (by decide)) ?_
  unfold cmpM
  by_cases c : a.1 * b.2 < b.1 * a.2
  · rw [if_pos c]
    exact s_stop (q_ifT (p_test (p_lt (i := a.1 * b.2) (j := b.1 * a.2) (by walk_at "ev") (by walk_at "ev"))) (decide_eq_true c) (p_ret (by walk_at "ev")))
  · rw [if_neg c]
    refine q_skip (p_test (p_lt (i := a.1 * b.2) (j := b.1 * a.2) (by walk_at "ev") (by walk_at "ev"))) (decide_eq_false c) ?_
    by_cases c2 : b.1 * a.2 < a.1 * b.2
    · rw [if_pos c2]
      exact s_stop (q_ifT (p_test (p_gt (i := a.1 * b.2) (j := b.1 * a.2) (by walk_at "ev") (by walk_at "ev"))) (decide_eq_true c2) (p_ret (by walk_at "ev")))
    · rw [if_neg c2]
      exact q_skip (p_test (p_gt (i := a.1 * b.2) (j := b.1 * a.2) (by walk_at "ev") (by walk_at "ev"))) (decide_eq_false c2) (p_ret (by walk_at "ev"))
theorem fok_is_sized (Tp : Top K mg base) : FnOk P w K mg base CX0 1 Tp.f_is_sized Tp.d_is_sized ["size"] (spP K RSized) := by
  refine Tp.F_is_sized.ok sc_is_sized (fun vs H Q E h => len_P (fun _ _ z => by obtain ⟨_, _, e, _⟩ := z; rw [e]; rfl) h) (fun cdv A outer s H vs Q E hr h => ?_)
  refine ⟨_, (pss_one (ps_ret (pe_and (pe_cmpR op_gt (pe_ix (r := rIxT K) ix_tup (pe_ix (r := rIxT K) ix_tup (pv 0) pe_int (fun _ _ => rfl)) pe_int (fun _ _ => rfl)) pe_int (nomark _)) (pe_one (pe_cmpR op_gt (pe_ix (r := rIxT K) ix_tup (pe_ix (r := rIxT K) ix_tup (pv 0) pe_int (fun _ _ => rfl)) pe_int (fun _ _ => rfl)) pe_int (nomark _)))))), body_P ?_ h⟩
  refine fun ds d r I => ?_
  obtain ⟨a, b, rfl, rfl⟩ := r
  walk_at "norm"
  exact p_ret (e_andV (p_gt (i := a.1) (j := 0) (by walk_at "ev") (by walk_at "ev")) fun _ => p_gt (i := b.1) (j := 0) (by walk_at "ev") (by walk_at "ev"))
theorem fok_check_axis (Tp : Top K mg base) : FnOk P w K mg base (L2.CX P w) 1 Tp.f_check_axis Tp.d_check_axis ["axis"] (spX K (RAxis Tp.c_AxisError)) := by
  refine Tp.F_check_axis.okX sc_check_axis (fun vs H Q E h => len_X (fun _ _ ⟨_, e, _⟩ => by rw [e]; rfl) h) (fun cdv A outer s H vs Q E hr h => ?_)
  refine ⟨_, (pss_one (ps_if (pt_cmpR op_notIn_seq (pv 0) (pe_tup (pa_cons pe_int (pa_cons pe_int pa_nil))) rfl) (pss_one (ps_raise rfl (takes_of rfl rfl rfl rfl) (pmk_own PySem.F.excBase_ValueError Tp.xc_AxisError Tp.gc_AxisError Tp.kc_AxisError (raises_own Tp.bc_AxisError Tp.tc_AxisError) rfl))) pss_nil)), body_XN ?_ h⟩
  refine fun ds r hr I hx => ?_
  obtain ⟨n, rfl, hr⟩ := hr
  walk_at "norm"
  rcases hr with ⟨h0, rfl⟩ | ⟨h0, rfl⟩
  · exact .inl ⟨rfl, _, q_ifF (p_test (e_axis (n := n) (e_var rfl) (p_tup2 (by walk_at "ev")))) (by rw [h0]; rfl) s_next⟩
  · exact .inr ⟨_, rfl, fun k => q_ifT (p_test (e_axis (n := n) (e_var rfl) (p_tup2 (by walk_at "ev")))) (by rw [h0]; rfl) (s_raise' fun G H σ D gh io => hx _ rfl G H io)⟩
theorem fok_linked_sets (Tp : Top K mg base) : FnOk P w K mg base CX0 1 Tp.f_linked_sets Tp.d_linked_sets ["names", "links"] (spP K RLinked) := by
  refine Tp.F_linked_sets.ok sc_linked_sets (fun vs H Q E h => len_P (fun _ _ ⟨_, _, e, _⟩ => by rw [e]; rfl) h) (fun cdv A outer s H vs Q E hr h => ?_)
  refine ⟨_, (pss_cons (ps_set (i := 2) sc_linked_sets.nd rfl (.inr rfl) (pe_dc (own := [("name", 6)]) (tt := tYes) rfl sc_linked_sets.nd (pi_list (pv 0)) (blkOk_by (N := ["names", "links", "set_of", "link", "member", "joined", "name"]) (sc := defScope s_linked_sets) (by decide +kernel)) (fun _ _ _ _ _ => (pg_name (i := 6) sc_linked_sets.nd rfl (Or.inl rfl))) (fun _ _ _ _ _ => pts_nil) (fun _ _ _ _ _ => (pv 6)) (fun _ _ _ _ _ => (pe_tup (pa_cons (pv 6) pa_nil)))))
      (pss_cons (ps_for PassesOwn.never rfl (pi_list (pv 1)) (pg_name (i := 3) sc_linked_sets.nd rfl (.inl rfl)) (pss_cons (ps_set (i := 5) sc_linked_sets.nd rfl (.inl rfl) (pe_callTy call_tuple_of (by rfl) Tp.n_tuple (by decide +kernel) (pa_cons (pe_callB (cr_sortedSet (by rfl)) (by rfl) Tp.n_sorted (by decide +kernel) (pa_cons (pe_ss2 (own := [("name", 6), ("member", 4)]) (us := [4]) (g := (gName 6)) (gj := (gName 4)) (wj := iTup K _) (tt := tYes) (tj := tYes) rfl sc_linked_sets.nd (pi_tup (pv 3)) (blkOk_by (N := ["names", "links", "set_of", "link", "member", "joined", "name"]) (sc := defScope s_linked_sets) (by decide +kernel)) (by decide) (fun _ _ _ _ _ => (pg_name (i := 6) sc_linked_sets.nd rfl (Or.inl rfl))) (fun _ _ _ _ _ => pts_nil) (fun _ _ _ _ _ => (pi_tup (pe_dget (hu_of hr) (pv 2) (pv 6) (fun _ _ => rfl)))) (fun _ _ _ _ _ => (pg_name (i := 4) sc_linked_sets.nd rfl (Or.inl rfl))) (fun _ _ _ _ _ => pts_nil) (fun _ _ _ _ _ => (pv 4))) pa_nil)) pa_nil)))
      (pss_one (ps_for PassesOwn.never rfl (pi_tup (pv 5)) (pg_name (i := 4) sc_linked_sets.nd rfl (.inl rfl)) (pss_one (ps_dput (hu_of hr) (pv 2) (pv 4) (pv 5) rfl))))))
      (pss_one (ps_ret (pe_callTy call_tuple_of (by rfl) Tp.n_tuple (by decide +kernel) (pa_cons (pe_callB (cr_sortSH (by rfl) (hu3 hr)) (by rfl) Tp.n_sorted (by decide +kernel) (pa_cons (pe_callTy (cr_setOfT (by rfl) hr.units) (by rfl) Tp.n_set (by decide +kernel) (pa_cons (pe_callTy (cr_listV (by rfl)) (by rfl) Tp.n_list (by decide +kernel) (pa_cons (pe_bm0 PySem.F.plainAttrs_dict PySem.F.slot_dict_values PySem.F.type_dict_values mt_valuesK (pv 2)) pa_nil)) pa_nil)) pa_nil)) pa_nil)))))), body_P ?_ h⟩
  refine fun ds d r I => ?_
  obtain ⟨ns, ls, rfl, hs, hl, hn, rfl⟩ := r
  have nd := asc_nodup hs
  walk_at "norm"
  refine s_dcM (ks := ns) (es := ns.map fun n => tupI [n]) (iw_l (e_var rfl)) (by rw [List.length_map]) (by rw [List.length_map, List.length_map]) (by rw [List.length_map]; omega) nd (fun i m y hi hm hy => ?_) fun q hq => ?_
  · obtain ⟨z, hz, rfl⟩ := getElem?_of_map hy
    rw [hz] at hm
    obtain rfl : z = m := Option.some.inj hm
    rw [at0_map hz]
    exact ⟨_, w_name (by decide), fun I' => e_var rfl, fun I' => e_tup (a_cons (e_var rfl) a_nil) (.cons .nil) (show 1 ≤ 100000 by decide)⟩
  rw [kvF_of, kvF_congr (g := fun x => tupI (PM.grp ns id x)) fun x hx => by rw [grp_id nd hx]]
  refine s_loopR (α := Int → Int) (bs := ls) (f := fun _ l => lkD l) (fun i rest c => ∃ dn, ls = dn ++ rest ∧ c = PM.cls dn id) (fun _ => [some (.d (.list (ns.map PyData.int))), some (.d (.list (ls.map lkD))), some (.r q), none, none, none, none]) (fun c => kJ K q (kvF ns fun x => tupI (PM.grp ns c x)) I) id ⟨[], rfl, rfl⟩ (iw_l (e_var rfl)) (by rw [List.length_map]) (fun i z h => at0_map h) rfl (fun i l rest c hw => ?_) fun c i hw => ?_
  · obtain ⟨dn, el, rfl⟩ := hw
    have hml : l ∈ ls := by rw [el]; simp
    obtain ⟨h1, h2⟩ := hl l hml
    generalize ec : PM.cls dn id = c
    refine ⟨_, g_name, .inl ⟨PM.mrg c l, ⟨dn ++ [l], by rw [el]; simp, by unfold PM.cls; rw [List.foldl_append, ← ec]; rfl⟩, ?_⟩⟩
    have hkv := fun x (hx : x ∈ ns) => kvF_at (f := fun x => tupI (PM.grp ns c x)) hx
    have glen : ∀ x, ((PM.grp ns c x).map PyData.int).length ≤ 24 := fun x => by
      rw [List.length_map]
      exact Nat.le_trans (List.length_filter_le _ _) hn
    generalize ee : ns.filter (fun y => decide (c y = c l.1 ∨ c y = c l.2)) = es
    have hes : ∀ y, y ∈ es ↔ y ∈ ns ∧ (c y = c l.1 ∨ c y = c l.2) := fun y => by rw [← ee, List.mem_filter, decide_eq_true_iff]
    refine s_lessN (ρ' := [some (.d (.list (ns.map PyData.int))), some (.d (.list (ls.map lkD))), some (.r q), some (.d (lkD l)), none, some (.t (es.map PyData.int)), none]) ⟨.inr rfl, .inr rfl, .inr rfl, .inl rfl, .inr rfl, .inl rfl, .inr rfl, trivial⟩ ?_
    refine q_asg (d := .t (es.map PyData.int)) (e_tupOf (a_cons (e_l2d (e_sortSS (M := 24) (n := 2) (m := fun i => ((PM.grp ns c (if i = 0 then l.1 else l.2)).map PyData.int).length) (ys := fun i => at0 ((PM.grp ns c (if i = 0 then l.1 else l.2)).map PyData.int)) (e := fun i j => (PM.grp ns c (if i = 0 then l.1 else l.2)).getD j 0) (es := es) (iw_t (ds := [PyData.int l.1, PyData.int l.2]) (e_var rfl)) (fun i _ => glen _) (by decide) (fun i hi => ?_) (by rw [← ee]; exact List.Pairwise.filter _ hs) (fun k => ?_))) a_nil)) ?_
    · have ex : at0 [PyData.int l.1, PyData.int l.2] i = .int (if i = 0 then l.1 else l.2) := by
        match i, hi with
        | 0, _ => rfl
        | 1, _ => rfl
      have hx : (if i = 0 then l.1 else l.2) ∈ ns := by split <;> assumption
      rw [ex]
      refine ⟨_, w_name (by decide), fun I' hI => iw_t (e_kGetM (q := q) (kvs := kvF ns fun x => tupI (PM.grp ns c x)) (e_var rfl) (e_var rfl) (fun G H z => (hI G H z).1) (hkv _ hx)), fun j hj => ?_⟩
      rw [at0_map (z := (PM.grp ns c (if i = 0 then l.1 else l.2)).getD j 0) (by
        rw [List.length_map] at hj
        rw [List.getD_eq_getElem?_getD, List.getElem?_eq_getElem hj]
        rfl)]
      exact ⟨_, w_name (by decide), fun I' => e_var rfl⟩
    · rw [hes]
      constructor
      · rintro ⟨hk, hk2⟩
        have key : ∀ i, k ∈ PM.grp ns c (if i = 0 then l.1 else l.2) → i < 2 → ∃ i j, i < 2 ∧ j < ((PM.grp ns c (if i = 0 then l.1 else l.2)).map PyData.int).length ∧ (PM.grp ns c (if i = 0 then l.1 else l.2)).getD j 0 = k := fun i hi lt => by
          obtain ⟨j, hj, e⟩ := List.mem_iff_getElem.mp hi
          refine ⟨i, j, lt, by rw [List.length_map]; exact hj, ?_⟩
          rw [List.getD_eq_getElem?_getD, List.getElem?_eq_getElem hj, e]
          rfl
        rcases hk2 with e | e
        · exact key 0 (PM.mem_grp.mpr ⟨hk, e⟩) (by decide)
        · exact key 1 (PM.mem_grp.mpr ⟨hk, e⟩) (by decide)
      · rintro ⟨i, j, hi, hj, rfl⟩
        rw [List.length_map] at hj
        have m := PM.mem_grp.mp (List.getElem_mem hj)
        rw [List.getD_eq_getElem?_getD, List.getElem?_eq_getElem hj]
        refine ⟨m.1, ?_⟩
        have m2 := m.2
        match i, hi with
        | 0, _ => exact .inl m2
        | 1, _ => exact .inr m2
    · refine s_loopR1 (α := List Int) (bs := es) (f := fun _ z => PyData.int z) (fun i rest a => es = a ++ rest) (fun _ => [some (.d (.list (ns.map PyData.int))), some (.d (.list (ls.map lkD))), some (.r q), some (.d (lkD l)), none, some (.t (es.map PyData.int)), none]) (fun a => kJ K q (kvF ns fun x => if x ∈ a then tupI es else tupI (PM.grp ns c x)) I) [] rfl (iw_t (e_var rfl)) (by rw [List.length_map]) (fun i z h => at0_map h) rfl (fun i z rest a hw => ?_) fun a i hw => ?_
      · have hz : z ∈ ns := ((hes z).mp (by rw [hw]; simp)).1
        refine ⟨_, g_name, .inl ⟨a ++ [z], by rw [hw]; simp, ?_⟩⟩
        have e := kvF_put (ns := ns) (f := fun x => if x ∈ a then tupI es else tupI (PM.grp ns c x)) (g := fun x => if x ∈ a ++ [z] then tupI es else tupI (PM.grp ns c x)) (x := tupI es) hz (fun m => by
          show (if m ∈ a ++ [z] then tupI es else tupI (PM.grp ns c m)) = if m = z then tupI es else if m ∈ a then tupI es else tupI (PM.grp ns c m)
          by_cases e : m = z
          · rw [if_pos e, if_pos (by rw [e]; simp)]
          · rw [if_neg e]
            by_cases h : m ∈ a
            · rw [if_pos h, if_pos (List.mem_append_left _ h)]
            · rw [if_neg h, if_neg (by simp [h, e])])
        refine s_lessN (ρ' := [some (.d (.list (ns.map PyData.int))), some (.d (.list (ls.map lkD))), some (.r q), some (.d (lkD l)), some (.i z), some (.t (es.map PyData.int)), none]) ⟨.inr rfl, .inr rfl, .inr rfl, .inr rfl, .inl rfl, .inr rfl, .inr rfl, trivial⟩ ?_
        exact s_is (s_putKG (x := tupI es) (e_var rfl) rfl (e_var rfl) (by rw [kvF_len]; omega) hq) (by rw [e]; rfl)
      · rw [List.append_nil] at hw
        subst hw
        rw [kvF_congr (g := fun x => tupI (PM.grp ns (PM.mrg c l) x)) fun x hx => ?_]
        · exact s_next
        · show (if x ∈ es then tupI es else tupI (PM.grp ns c x)) = tupI (PM.grp ns (PM.mrg c l) x)
          rw [PM.grp_mrg, ee]
          by_cases h : c x = c l.1 ∨ c x = c l.2
          · rw [if_pos h, if_pos ((hes x).mpr ⟨hx, h⟩)]
          · rw [if_neg h, if_neg fun z => h ((hes x).mp z).2]
  · obtain ⟨dn, el, rfl⟩ := hw
    rw [List.append_nil] at el
    subst el
    refine s_freezeK (i := 2) rfl hq ?_
    refine p_ret (e_tupOf (a_cons (e_l2d (e_setSortH (kss := ns.map (PM.grp ns (PM.cls ls id))) (ess := PM.grps ns (PM.cls ls id)) (a_cons (e_is (e_listVals (e_var rfl)) ?_) a_nil) (by rw [List.length_map]; omega) (fun k hk => ?_) (PM.grps_tell hs) (PM.grps_mem hs) (PM.grps_up hs))) a_nil))
    · unfold kvF
      rw [List.map_map, List.map_map]
      rfl
    · obtain ⟨x, hx, rfl⟩ := List.mem_map.mp hk
      exact PM.grp_ne hs hx
theorem fok_is_moving (Tp : Top K mg base) : FnOk P w K mg base CX0 1 Tp.f_is_moving Tp.d_is_moving ["body"] (spP K RMoving) := by
  refine Tp.F_is_moving.ok sc_is_moving (fun vs H Q E h => len_P (fun _ _ ⟨_, e, _⟩ => by rw [e]; rfl) h) (fun cdv A outer s H vs Q E hr h => ?_)
  refine ⟨_, (pss_one (ps_ret (pe_cmpR op_gt (pe_ix (r := rIxT K) ix_tup (pv 0) pe_int (fun _ _ => rfl)) pe_int (nomark _)))), body_P ?_ h⟩
  refine fun ds d r I => ?_
  obtain ⟨b, rfl, rfl⟩ := r
  walk_at "norm"
  exact p_ret (p_gt (i := b.ms) (j := 0) (p_ixT (i := 3) (x := .int b.ms) (e_var rfl) e_int rfl) e_int)
theorem fok_box_of_body (Tp : Top K mg base) : FnOk P w K mg base CX0 1 Tp.f_box_of_body Tp.d_box_of_body ["body"] (spP K RBoxOf) := by
  refine Tp.F_box_of_body.ok sc_box_of_body (fun vs H Q E h => len_P (fun _ _ ⟨_, e, _⟩ => by rw [e]; rfl) h) (fun cdv A outer s H vs Q E hr h => ?_)
  refine ⟨_, (pss_one (ps_ret (pe_tup (pa_cons (pe_ix (r := rIxT K) ix_tup (pv 0) pe_int (fun _ _ => rfl)) (pa_cons (pe_ix (r := rIxT K) ix_tup (pv 0) pe_int (fun _ _ => rfl)) pa_nil))))), body_P ?_ h⟩
  refine fun ds d r I => ?_
  obtain ⟨b, rfl, rfl⟩ := r
  walk_at "norm"
  exact p_ret (p_tup2 (p_cons (p_i1 (e_var rfl)) (p_cons (p_i2 (e_var rfl)) a_nil)))
theorem fok_places_of (Tp : Top K mg base) : FnOk P w K mg base CX0 1 Tp.f_places_of Tp.d_places_of ["bodies"] (spP K RPlaces) := by
  refine Tp.F_places_of.ok sc_places_of (fun vs H Q E h => len_P (fun _ _ ⟨_, e, _⟩ => by rw [e]; rfl) h) (fun cdv A outer s H vs Q E hr h => ?_)
  refine ⟨_, (pss_one (ps_ret (pe_dc (own := [("body", 1)]) (tt := tYes) rfl sc_places_of.nd (pi_tup (pv 0)) (blkOk_by (N := ["bodies", "body"]) (sc := defScope s_places_of) (by decide +kernel)) (fun _ _ _ _ _ => (pg_name (i := 1) sc_places_of.nd rfl (Or.inl rfl))) (fun _ _ _ _ _ => pts_nil) (fun _ _ _ _ _ => (pe_ix (r := rIxT K) ix_tup (pv 1) pe_int (fun _ _ => rfl))) (fun _ _ _ _ _ => (pe_ix (r := rIxT K) ix_tup (pv 1) pe_int (fun _ _ => rfl)))))), body_P ?_ h⟩
  refine fun ds d r I => ?_
  obtain ⟨bs, rfl, nd, hl, rfl⟩ := r
  walk_at "norm"
  refine p_ret (e_dcW (ks := bs.map (·.nm)) (es := bs.map fun z => vcd z.bx.p0 z.bx.p1) (iw_t (e_var rfl)) (by rw [List.length_map, List.length_map]) (by rw [List.length_map, List.length_map]) (by rw [List.length_map]; exact hl) nd fun i m y hi hm hy => ?_)
  obtain ⟨z, hz, rfl⟩ := getElem?_of_map hy
  rw [List.getElem?_map, hz] at hm
  obtain rfl : z.nm = m := Option.some.inj hm
  rw [at0_map hz]
  exact ⟨_, w_name List.mem_cons_self, fun I' => p_i0 (e_var rfl), fun I' => p_i1 (e_var rfl)⟩
theorem fok_law_begin (Tp : Top K mg base) : FnOk P w K mg base CX0 1 Tp.f_law_begin Tp.d_law_begin ["script"] (spBegin K) := by
  refine Tp.F_law_begin.ok sc_law_begin (fun vs H Q E h => by obtain ⟨_, _, _, e, _⟩ := h; rw [e]; rfl) (fun cdv A outer s H vs Q E hr h => ?_)
  refine ⟨_, (pss_cons (ps_set (i := 1) sc_law_begin.nd rfl (.inl rfl) pe_int)
      (pss_cons (ps_for PassesOwn.never rfl (pi_list (pv 0)) (pg_name (i := 2) sc_law_begin.nd rfl (.inl rfl)) (pss_one (ps_set (i := 1) sc_law_begin.nd rfl (.inl rfl) (pe_op op_mod (pe_op op_add (pe_op op_add (pe_op op_mulW (pv 1) pe_int) (pe_op op_mod (pe_callTy call_int1 (by rfl) Tp.n_int (by decide +kernel) (pa_cons (pv 2) pa_nil)) pe_int)) pe_int) pe_int))))
      (pss_one (ps_ret (pe_lst (pa_cons (pe_callTy call_list_of (by rfl) Tp.n_list (by decide +kernel) (pa_cons (pv 0) pa_nil)) (pa_cons pe_int (pa_cons pe_int (pa_cons (pv 1) pa_nil))))))))), body_beg ?_ h⟩
  refine fun ns G0 H0 => ?_
  walk_at "norm"
  refine q_asg (d := .i 1) (by walk_at "ev") ?_
  refine s_seq (ρ1 := [some (.d (.list (ns.map PyData.int))), some (.i (seedAt ns ns.length)), none]) (J := .since NoA G0 H0) ?_ ?_
  · have z := s_forL (K := K) (ts := ?_) (tl := tVar 0) (I := .since NoA G0 H0) (ds := ns.map PyData.int) (j := 2) (fun i => [some (.d (.list (ns.map PyData.int))), some (.i (seedAt ns i)), none]) (fun _ => .since NoA G0 H0) (e_var rfl) rfl ?_
    · rw [List.length_map] at z
      exact z
    · intro i x hx
      rw [List.getElem?_map, Option.map_eq_some_iff] at hx
      obtain ⟨n, hn, rfl⟩ := hx
      have b := seed_ok ns i
      refine s_lessN (ρ' := [some (.d (.list (ns.map PyData.int))), some (.i (seedAt ns (i + 1))), some (.i n)]) ⟨.inr rfl, .inr rfl, .inl rfl, trivial⟩ ?_
      have e : seedAt ns (i + 1) = (seedAt ns i * 69621 + n % 2147483629 + 7) % 2147483647 := by
        show seedF (seedAt ns i) (ns.getD i 0) = _
        rw [List.getD_eq_getElem?_getD, hn]
        rfl
      rw [e]
      refine p_asg (d := .i ((seedAt ns i * 69621 + n % 2147483629 + 7) % 2147483647)) ?_
      walk_at "ev"
      · exact mulW (m := 32) (n := 32) (by omega) (by decide) (by decide)
      · decide
      · decide
  · exact s_retBeg (seed_ok ns _) (by walk_at "ev")
theorem fok_law_take (Tp : Top K mg base) : FnOk P w K mg base CX0 1 Tp.f_law_take Tp.d_law_take ["d", "many"] (spW K RTake) := by
  refine Tp.F_law_take.ok sc_law_take (fun vs H Q E h => len_W (fun _ _ _ _ ⟨_, e, _⟩ => by rw [e]; rfl) h) (fun cdv A outer s H vs Q E hr h => ?_)
  refine ⟨_, (pss_cons (ps_if (PW.pt (pw_and (pt_cmpR op_eq (pe_ix (r := rIxL K) ix_list (pv 0) pe_int (fun _ _ => rfl)) pe_int (nomark _)) (pw_and1 (pt_cmpR op_lt (pe_ix (r := rIxL K) ix_list (pv 0) pe_int (fun _ _ => rfl)) (pe_callB call_len_seq (by rfl) Tp.n_len (by decide +kernel) (pa_cons (pe_ix (r := rIxL K) ix_list (pv 0) pe_int (fun _ _ => rfl)) pa_nil)) (nomark _))))) (pss_cons (ps_asg (pe_callB call_abs (by rfl) Tp.n_abs (by decide +kernel) (pa_cons (pe_callTy call_int1 (by rfl) Tp.n_int (by decide +kernel) (pa_cons (pe_ix (r := rIxL K) ix_list (pe_ix (r := rIxL K) ix_list (pv 0) pe_int (fun _ _ => rfl)) (pe_ix (r := rIxL K) ix_list (pv 0) pe_int (fun _ _ => rfl)) (fun _ _ => rfl)) pa_nil)) pa_nil)) (pg_sub (pv 0) pe_int set_list))
      (pss_cons (ps_asg (pe_op op_add (pe_ix (r := rIxL K) ix_list (pv 0) pe_int (fun _ _ => rfl)) pe_int) (pg_sub (pv 0) pe_int set_list))
      (pss_one (ps_if (pt_cmpR op_lt (pe_ix (r := rIxL K) ix_list (pv 0) pe_int (fun _ _ => rfl)) (pe_op op_pow pe_int pe_int) (nomark _)) (pss_cons (ps_set (i := 2) sc_law_take.nd rfl (.inl rfl) (pe_callTy call_int1 (by rfl) Tp.n_int (by decide +kernel) (pa_cons (pe_ix (r := rIxL K) ix_list (pv 0) pe_int (fun _ _ => rfl)) pa_nil)))
      (pss_cons (ps_asg pe_int (pg_sub (pv 0) pe_int set_list))
      (pss_one (ps_ret (pe_op op_mod (pv 2) (pv 1)))))) pss_nil)))) pss_nil)
      (pss_cons (ps_if (pt_cmpR op_gt (pe_ix (r := rIxL K) ix_list (pv 0) pe_int (fun _ _ => rfl)) pe_int (nomark _)) (pss_cons (ps_set (i := 3) sc_law_take.nd rfl (.inl rfl) (pe_op op_mod (pe_callTy call_int1 (by rfl) Tp.n_int (by decide +kernel) (pa_cons (pe_ix (r := rIxL K) ix_list (pv 0) pe_int (fun _ _ => rfl)) pa_nil)) (pv 1)))
      (pss_cons (ps_asg (pe_op op_fdivW (pe_callTy call_int1 (by rfl) Tp.n_int (by decide +kernel) (pa_cons (pe_ix (r := rIxL K) ix_list (pv 0) pe_int (fun _ _ => rfl)) pa_nil)) (pv 1)) (pg_sub (pv 0) pe_int set_list))
      (pss_one (ps_ret (pv 3))))) pss_nil)
      (pss_cons (ps_asg (pe_op op_mod (pe_callTy call_int1 (by rfl) Tp.n_int (by decide +kernel) (pa_cons (pe_op op_add (pe_op op_mulW (pe_ix (r := rIxL K) ix_list (pv 0) pe_int (fun _ _ => rfl)) pe_int) pe_int) pa_nil)) pe_int) (pg_sub (pv 0) pe_int set_list))
      (pss_one (ps_ret (pe_op op_mod (pe_callTy call_int1 (by rfl) Tp.n_int (by decide +kernel) (pa_cons (pe_op op_fdivW (pe_ix (r := rIxL K) ix_list (pv 0) pe_int (fun _ _ => rfl)) pe_int) pa_nil)) (pv 1))))))), body_W ?_ h⟩
  refine fun ds C d C' r p J hf => ?_
  obtain ⟨m, rfl, ok, hm, hz, rfl, rfl⟩ := r
  walk_at "norm"
  have dm : ∀ i : Int, CDivW i m := fun i => divW hm hz (by decide)
  by_cases c1 : C.rest = 0 ∧ C.pos < C.ns.length
  · have e1 : (C.ns.map PyData.int)[C.pos]? = some (.int (C.ns.getD C.pos 0)) := by
      rw [List.getElem?_map, List.getElem?_eq_getElem c1.2, List.getD_eq_getElem?_getD, List.getElem?_eq_getElem c1.2]
      rfl
    generalize hx : ((C.ns.getD C.pos 0).natAbs : Int) = x
    have hx0 : 0 ≤ x := by omega
    by_cases c2 : x < 10 ^ 18
    · have e : take C m = (x % m, { C with pos := C.pos + 1, rest := 0 }) := by
        unfold take
        rw [if_pos c1, hx, if_pos c2]
      rw [e]
      refine s_stop (s_ifT (t_andT (t_is (p_test (p_eqI (i := C.rest) (j := 0) (d_ix2 (e_var rfl)) e_int)) (decide_eq_true c1.1)) (t_is (p_test (p_lt (i := (C.pos : Nat)) (j := ((C.ns.map PyData.int).length : Nat)) (d_ix1 (e_var rfl)) (p_len (p_cons (d_ix0 (e_var rfl)) a_nil)))) (decide_eq_true (by rw [List.length_map]; omega)))) ?_)
      refine s_seq (d_set2 (x := x) (e_is (p_abs (i := C.ns.getD C.pos 0) (p_cons (p_int1 (p_cons (e_ixL (j := C.pos) (d_ix0 (e_var rfl)) (d_ix1 (e_var rfl)) e1) a_nil)) a_nil)) (by rw [hx])) (e_var rfl) hf) ?_
      refine s_seq (d_set1 (n := C.pos + 1) (x := (C.pos : Int) + 1) (by walk_at "ev") rfl (e_var rfl) hf) ?_
      refine q_ifT (p_test (p_lt (i := x) (j := 10 ^ (18 : Int).toNat) (d_ix2 (e_var rfl)) (p_pow e_int e_int ⟨by decide, by decide, by decide⟩))) (decide_eq_true c2) ?_
      refine q_asg (d := .i x) (p_int1 (p_cons (d_ix2 (e_var rfl)) a_nil)) ?_
      refine s_seq (d_set2 (x := 0) e_int (e_var rfl) hf) ?_
      refine p_ret ?_
      walk_at "ev"
      exact hm
    · have e : take C m = take1 { C with pos := C.pos + 1, rest := x } m := by
        unfold take
        rw [if_pos c1, hx, if_neg c2]
      rw [e]
      have xp : 0 < x := by
        have : (0 : Int) < 10 ^ 18 := by decide
        omega
      refine s_seq (ρ1 := [some (.r p), some (.i m), none, none]) (J := dJ K p { C with pos := C.pos + 1, rest := x } J) (s_ifT (t_andT (t_is (p_test (p_eqI (i := C.rest) (j := 0) (d_ix2 (e_var rfl)) e_int)) (decide_eq_true c1.1)) (t_is (p_test (p_lt (i := (C.pos : Nat)) (j := ((C.ns.map PyData.int).length : Nat)) (d_ix1 (e_var rfl)) (p_len (p_cons (d_ix0 (e_var rfl)) a_nil)))) (decide_eq_true (by rw [List.length_map]; omega)))) ?_) ?_
      · refine s_seq (d_set2 (x := x) (e_is (p_abs (i := C.ns.getD C.pos 0) (p_cons (p_int1 (p_cons (e_ixL (j := C.pos) (d_ix0 (e_var rfl)) (d_ix1 (e_var rfl)) e1) a_nil)) a_nil)) (by rw [hx])) (e_var rfl) hf) ?_
        refine s_seq (d_set1 (n := C.pos + 1) (x := (C.pos : Int) + 1) (by walk_at "ev") rfl (e_var rfl) hf) ?_
        exact q_ifF (p_test (p_lt (i := x) (j := 10 ^ (18 : Int).toNat) (d_ix2 (e_var rfl)) (p_pow e_int e_int ⟨by decide, by decide, by decide⟩))) (decide_eq_false c2) s_next
      · have e2 : take1 { C with pos := C.pos + 1, rest := x } m = (x % m, { C with pos := C.pos + 1, rest := x / m }) := by
          unfold take1
          exact if_pos xp
        rw [e2]
        refine s_stop (q_ifT (p_test (p_gt (i := x) (j := 0) (d_ix2 (e_var rfl)) e_int)) (decide_eq_true xp) ?_)
        refine q_asg (d := .i (x % m)) (p_mod (p_int1 (p_cons (d_ix2 (e_var rfl)) a_nil)) (e_var rfl) hm) ?_
        refine s_seq (d_set2 (x := x / m) (p_div (p_int1 (p_cons (d_ix2 (e_var rfl)) a_nil)) (e_var rfl) (dm x)) (e_var rfl) hf) ?_
        exact p_ret (e_var rfl)
  · have e : take C m = take1 C m := by
      unfold take
      rw [if_neg c1]
    rw [e]
    refine s_seq (ρ1 := [some (.r p), some (.i m), none, none]) (J := dJ K p C J) (s_ifF (J := dJ K p C J) ?_ s_next) ?_
    · by_cases c3 : C.rest = 0
      · exact t_andT (t_is (p_test (p_eqI (i := C.rest) (j := 0) (d_ix2 (e_var rfl)) e_int)) (decide_eq_true c3)) (t_is (p_test (p_lt (i := (C.pos : Nat)) (j := ((C.ns.map PyData.int).length : Nat)) (d_ix1 (e_var rfl)) (p_len (p_cons (d_ix0 (e_var rfl)) a_nil)))) (decide_eq_false (by rw [List.length_map]; omega)))
      · exact t_andF (t_is (p_test (p_eqI (i := C.rest) (j := 0) (d_ix2 (e_var rfl)) e_int)) (decide_eq_false c3))
    by_cases c4 : 0 < C.rest
    · have e2 : take1 C m = (C.rest % m, { C with rest := C.rest / m }) := by
        unfold take1
        exact if_pos c4
      rw [e2]
      refine s_stop (q_ifT (p_test (p_gt (i := C.rest) (j := 0) (d_ix2 (e_var rfl)) e_int)) (decide_eq_true c4) ?_)
      refine q_asg (d := .i (C.rest % m)) (p_mod (p_int1 (p_cons (d_ix2 (e_var rfl)) a_nil)) (e_var rfl) hm) ?_
      refine s_seq (d_set2 (x := C.rest / m) (p_div (p_int1 (p_cons (d_ix2 (e_var rfl)) a_nil)) (e_var rfl) (dm _)) (e_var rfl) hf) ?_
      exact p_ret (e_var rfl)
    · have e2 : take1 C m = (((C.seed * 48271 + 11) % 2147483647 / 3) % m, { C with seed := (C.seed * 48271 + 11) % 2147483647 }) := by
        unfold take1
        exact if_neg c4
      rw [e2]
      have b := ok.s
      refine q_skip (p_test (p_gt (i := C.rest) (j := 0) (d_ix2 (e_var rfl)) e_int)) (decide_eq_false c4) ?_
      refine s_seq (d_set3 (x := (C.seed * 48271 + 11) % 2147483647) (p_mod (p_int1 (p_cons (p_add (p_mul (d_ix3 (e_var rfl)) e_int (mulW (m := 32) (n := 32) (by omega) (by decide) (by decide))) e_int) a_nil)) e_int (by decide)) (e_var rfl) hf) ?_
      exact p_ret (p_mod (p_int1 (p_cons (p_div (d_ix3 (e_var rfl)) e_int (divW (n := 2) (by decide) (by decide) (by decide))) a_nil)) (e_var rfl) hm)
theorem fok_law_gcd (Tp : Top K mg base) : FnOk P w K mg base CX0 1 Tp.f_law_gcd Tp.d_law_gcd ["a", "b"] (spP K RGcd) := by
  refine Tp.F_law_gcd.ok sc_law_gcd (fun vs H Q E h => len_P (fun _ _ ⟨_, _, e, _⟩ => by rw [e]; rfl) h) (fun cdv A outer s H vs Q E hr h => ?_)
  refine ⟨_, (pss_cons (ps_while PassesOwn.never (pt_cmpR op_ne (pv 1) pe_int (nomark _)) (pss_one (ps_par (i := 0) (j := 1) rfl sc_law_gcd.nd rfl rfl (by decide) rfl rfl (pa_cons (pv 1) (pa_cons (pe_op op_mod (pe_callTy call_int1 (by rfl) Tp.n_int (by decide +kernel) (pa_cons (pv 0) pa_nil)) (pv 1)) pa_nil)) (by rfl))))
      (pss_one (ps_ret (pe_callB call_abs (by rfl) Tp.n_abs (by decide +kernel) (pa_cons (pv 0) pa_nil))))), body_P ?_ h⟩
  refine fun ds d r I => ?_
  obtain ⟨x, y, rfl, hx, hy, rfl⟩ := r
  walk_at "norm"
  refine s_seq (ρ1 := [some (.i (Int.gcd x y : Nat)), some (.i 0)]) (J := I) ?_ ?_
  · refine s_while (α := Int × Int) (fun s => Int.gcd s.1 s.2 = Int.gcd x y ∧ 0 ≤ s.1 ∧ 0 ≤ s.2) (fun s => [some (.i s.1), some (.i s.2)]) (fun _ => I) (fun s => s.2.natAbs) (x, y) ⟨rfl, hx, hy⟩ fun s iv => ?_
    obtain ⟨h1, h2, h3⟩ := iv
    by_cases h : s.2 = 0
    · refine .inr ⟨t_is (t_test (p_neI (i := s.2) (j := 0) (by walk_at "ev") (by walk_at "ev"))) (by rw [h]; rfl), ?_⟩
      rw [h, Int.gcd_zero_right] at h1
      have e : s.1 = (Int.gcd x y : Nat) := by rw [← h1]; omega
      rw [h, e]
    · refine .inl ⟨t_is (t_test (p_neI (i := s.2) (j := 0) (by walk_at "ev") (by walk_at "ev"))) (by rw [decide_eq_false h]; rfl), .inl ⟨(s.2, s.1 % s.2), ⟨(gcd_step s.1 s.2).trans h1, h3, Int.emod_nonneg _ h⟩, ?_, ?_⟩⟩
      · have q := Int.emod_lt_of_pos s.1 (show 0 < s.2 by omega)
        have q2 := Int.emod_nonneg s.1 h
        show (s.1 % s.2).natAbs < s.2.natAbs
        omega
      · refine p_par (d := .i s.2) (e := .i (s.1 % s.2)) ?_
        walk_at "ev"
        omega
  · refine p_ret (e_is (p_abs (i := (Int.gcd x y : Nat)) (by walk_at "ev")) ?_)
    rw [Int.natAbs_natCast]
theorem fok_law_less (Tp : Top K mg base) : FnOk P w K mg base CX0 1 Tp.f_law_less Tp.d_law_less ["a", "b"] (spP K RLess) := by
  refine Tp.F_law_less.ok sc_law_less (fun vs H Q E h => len_P (fun _ _ z => by obtain ⟨_, _, e, _⟩ := z; rw [e]; rfl) h) (fun cdv A outer s H vs Q E hr h => ?_)
  refine ⟨_, (pss_one (ps_ret (pe_cmpR op_lt (pe_op op_mulW (pe_ix (r := rIxT K) ix_tup (pv 0) pe_int (fun _ _ => rfl)) (pe_ix (r := rIxT K) ix_tup (pv 1) pe_int (fun _ _ => rfl))) (pe_op op_mulW (pe_ix (r := rIxT K) ix_tup (pv 1) pe_int (fun _ _ => rfl)) (pe_ix (r := rIxT K) ix_tup (pv 0) pe_int (fun _ _ => rfl))) (nomark _)))), body_P ?_ h⟩
  refine fun ds d r I => ?_
  obtain ⟨a, b, rfl, ha, hb, rfl⟩ := r
  walk_at "norm"
  refine p_ret (p_lt (i := a.1 * b.2) (j := b.1 * a.2) ?_ ?_)
  · walk_at "ev"
    exact mulW ha.sz.1 hb.sz.2 (by decide)
  · walk_at "ev"
    exact mulW hb.sz.1 ha.sz.2 (by decide)
theorem fok_law_class (Tp : Top K mg base) : PX.FnP P w K mg base 1 Tp.f_law_class Tp.d_law_class ["e"] (spCls K (RCls4 Tp.c_IdError Tp.c_AxisError Tp.c_JointError Tp.c_OverlapError)) := by
  refine PX.def_pin Tp.F_law_class sc_law_class (fun p vs H Q E h => len_C h) (fun cdv A outer s H vs Q E p hr h => ?_)
  obtain ⟨hz, hf⟩ := zc_C h
  refine ⟨_, (pss_cons (ps_set (i := 1) sc_law_class.nd rfl (.inl rfl) (pe_op op_add_str (pe_ifExp (pt_val (PX.pe_isP (q := p) List.mem_cons_self hz hf (pv 0) (by rfl) Tp.n_isinstance (by rfl) Tp.gc_IdError)) pe_str pe_str) (pe_ifExp (pt_val (PX.pe_isP (q := p) List.mem_cons_self hz hf (pv 0) (by rfl) Tp.n_isinstance (by rfl) Tp.gc_AxisError)) pe_str pe_str)))
      (pss_one (ps_ret (pe_op op_add_str (pe_op op_add_str (pv 1) (pe_ifExp (pt_val (PX.pe_isP (q := p) List.mem_cons_self hz hf (pv 0) (by rfl) Tp.n_isinstance (by rfl) Tp.gc_JointError)) pe_str pe_str)) (pe_ifExp (pt_val (PX.pe_isP (q := p) List.mem_cons_self hz hf (pv 0) (by rfl) Tp.n_isinstance (by rfl) Tp.gc_OverlapError)) pe_str pe_str))))), body_C ?_ h⟩
  refine fun D d r hc hd I => ?_
  walk_at "norm"
  rcases r with ⟨rfl, rfl⟩ | ⟨rfl, rfl⟩ | ⟨rfl, rfl⟩ | ⟨rfl, rfl⟩
  · refine q_asg (d := .d (.str "id")) (e_is (e_addS (x := "id") (y := "") (e_ifT (t_B (e_isP (e_var rfl) hc hd Tp.E_IdError kit_same)) e_str) (e_ifF (t_B (e_isP (e_var rfl) hc hd Tp.E_IdError (kit_other Tp.hc_AxisError Tp.tc_AxisError Tp.ac_AxisError_AxisError Tp.no_IdError_AxisError))) e_str) (by rw [sizeLine_eq]; decide)) rfl) ?_
    exact p_ret (e_is (e_addS (x := "id") (y := "") (e_is (e_addS (x := "id") (y := "") (e_var rfl) (e_ifF (t_B (e_isP (e_var rfl) hc hd Tp.E_IdError (kit_other Tp.hc_JointError Tp.tc_JointError Tp.ac_JointError_JointError Tp.no_IdError_JointError))) e_str) (by rw [sizeLine_eq]; decide)) rfl) (e_ifF (t_B (e_isP (e_var rfl) hc hd Tp.E_IdError (kit_other Tp.hc_OverlapError Tp.tc_OverlapError Tp.ac_OverlapError_OverlapError Tp.no_IdError_OverlapError))) e_str) (by rw [sizeLine_eq]; decide)) rfl)
  · refine q_asg (d := .d (.str "axis")) (e_is (e_addS (x := "") (y := "axis") (e_ifF (t_B (e_isP (e_var rfl) hc hd Tp.E_AxisError (kit_other Tp.hc_IdError Tp.tc_IdError Tp.ac_IdError_IdError Tp.no_AxisError_IdError))) e_str) (e_ifT (t_B (e_isP (e_var rfl) hc hd Tp.E_AxisError kit_same)) e_str) (by rw [sizeLine_eq]; decide)) rfl) ?_
    exact p_ret (e_is (e_addS (x := "axis") (y := "") (e_is (e_addS (x := "axis") (y := "") (e_var rfl) (e_ifF (t_B (e_isP (e_var rfl) hc hd Tp.E_AxisError (kit_other Tp.hc_JointError Tp.tc_JointError Tp.ac_JointError_JointError Tp.no_AxisError_JointError))) e_str) (by rw [sizeLine_eq]; decide)) rfl) (e_ifF (t_B (e_isP (e_var rfl) hc hd Tp.E_AxisError (kit_other Tp.hc_OverlapError Tp.tc_OverlapError Tp.ac_OverlapError_OverlapError Tp.no_AxisError_OverlapError))) e_str) (by rw [sizeLine_eq]; decide)) rfl)
  · refine q_asg (d := .d (.str "")) (e_is (e_addS (x := "") (y := "") (e_ifF (t_B (e_isP (e_var rfl) hc hd Tp.E_JointError (kit_other Tp.hc_IdError Tp.tc_IdError Tp.ac_IdError_IdError Tp.no_JointError_IdError))) e_str) (e_ifF (t_B (e_isP (e_var rfl) hc hd Tp.E_JointError (kit_other Tp.hc_AxisError Tp.tc_AxisError Tp.ac_AxisError_AxisError Tp.no_JointError_AxisError))) e_str) (by rw [sizeLine_eq]; decide)) rfl) ?_
    exact p_ret (e_is (e_addS (x := "joint") (y := "") (e_is (e_addS (x := "") (y := "joint") (e_var rfl) (e_ifT (t_B (e_isP (e_var rfl) hc hd Tp.E_JointError kit_same)) e_str) (by rw [sizeLine_eq]; decide)) rfl) (e_ifF (t_B (e_isP (e_var rfl) hc hd Tp.E_JointError (kit_other Tp.hc_OverlapError Tp.tc_OverlapError Tp.ac_OverlapError_OverlapError Tp.no_JointError_OverlapError))) e_str) (by rw [sizeLine_eq]; decide)) rfl)
  · refine q_asg (d := .d (.str "")) (e_is (e_addS (x := "") (y := "") (e_ifF (t_B (e_isP (e_var rfl) hc hd Tp.E_OverlapError (kit_other Tp.hc_IdError Tp.tc_IdError Tp.ac_IdError_IdError Tp.no_OverlapError_IdError))) e_str) (e_ifF (t_B (e_isP (e_var rfl) hc hd Tp.E_OverlapError (kit_other Tp.hc_AxisError Tp.tc_AxisError Tp.ac_AxisError_AxisError Tp.no_OverlapError_AxisError))) e_str) (by rw [sizeLine_eq]; decide)) rfl) ?_
    exact p_ret (e_is (e_addS (x := "") (y := "over") (e_is (e_addS (x := "") (y := "") (e_var rfl) (e_ifF (t_B (e_isP (e_var rfl) hc hd Tp.E_OverlapError (kit_other Tp.hc_JointError Tp.tc_JointError Tp.ac_JointError_JointError Tp.no_OverlapError_JointError))) e_str) (by rw [sizeLine_eq]; decide)) rfl) (e_ifT (t_B (e_isP (e_var rfl) hc hd Tp.E_OverlapError kit_same)) e_str) (by rw [sizeLine_eq]; decide)) rfl)
theorem fok_law_groups (Tp : Top K mg base) : FnOk P w K mg base CX0 1 Tp.f_law_groups Tp.d_law_groups ["state"] (spP K RLGroups) := by
  refine Tp.F_law_groups.ok sc_law_groups (fun vs H Q E h => len_P (fun _ _ ⟨_, e, _⟩ => by rw [e]; rfl) h) (fun cdv A outer s H vs Q E hr h => ?_)
  refine ⟨_, (pss_cons (ps_set (i := 1) sc_law_groups.nd rfl (.inr rfl) pe_dnewK)
      (pss_cons (ps_for PassesOwn.never rfl (pi_tup (pe_ix (r := rIxT K) ix_tup (pv 0) pe_int (fun _ _ => rfl))) (pg_name (i := 2) sc_law_groups.nd rfl (.inl rfl)) (pss_one (ps_dput (hu_of hr) (pv 1) (pe_ix (r := rIxT K) ix_tup (pv 2) pe_int (fun _ _ => rfl)) (pe_ix (r := rIxT K) ix_tup (pv 2) pe_int (fun _ _ => rfl)) rfl)))
      (pss_cons (ps_for PassesOwn.never rfl (pi_range1 (by rfl) Tp.n_range (pa_cons (pe_callB call_lenD (by rfl) Tp.n_len (by decide +kernel) (pa_cons (pv 1) pa_nil)) pa_nil)) (pg_name (i := 3) sc_law_groups.nd rfl (.inl rfl)) (pss_one (ps_for PassesOwn.never rfl (pi_tup (pe_ix (r := rIxT K) ix_tup (pv 0) pe_int (fun _ _ => rfl))) (pg_name (i := 4) sc_law_groups.nd rfl (.inl rfl)) (pss_cons (ps_set (i := 5) sc_law_groups.nd rfl (.inl rfl) (pe_callB (call_min2 (by rfl)) (by rfl) Tp.n_min (by decide +kernel) (pa_cons (pe_dget (hu_of hr) (pv 1) (pe_ix (r := rIxT K) ix_tup (pv 4) pe_int (fun _ _ => rfl)) (fun _ _ => rfl)) (pa_cons (pe_dget (hu_of hr) (pv 1) (pe_ix (r := rIxT K) ix_tup (pv 4) pe_int (fun _ _ => rfl)) (fun _ _ => rfl)) pa_nil))))
      (pss_cons (ps_dput (hu_of hr) (pv 1) (pe_ix (r := rIxT K) ix_tup (pv 4) pe_int (fun _ _ => rfl)) (pv 5) rfl)
      (pss_one (ps_dput (hu_of hr) (pv 1) (pe_ix (r := rIxT K) ix_tup (pv 4) pe_int (fun _ _ => rfl)) (pv 5) rfl)))))))
      (pss_one (ps_ret (pe_callTy call_tuple_of (by rfl) Tp.n_tuple (by decide +kernel) (pa_cons (pe_lc (own := [("first", 6)]) (g := gName 6) rfl sc_law_groups.nd (pi_list (pe_callB (call_sortedDI rfl) (by rfl) Tp.n_sorted (by decide +kernel) (pa_cons (pv 1) pa_nil))) (blkOk_by (N := ["state", "groups", "body", "turn", "joint", "low", "first", "name"]) (sc := defScope s_law_groups) (by decide +kernel)) (fun _ _ _ _ _ => pg_name (i := 6) sc_law_groups.nd rfl (Or.inr rfl)) (fun _ _ _ _ _ => (pts_one (pt_cmpR op_eq (pe_dget (hu_of hr) (pv 1) (pv 6) (fun _ _ => rfl)) (pv 6) (nomark _)))) (fun _ _ _ _ _ => (pe_callTy (T := "tuple") (r := rTupOf K) call_tuple_of (by rfl) Tp.n_tuple (by decide +kernel) (pa_cons (pe_lc (own := [("name", 7)]) (g := gName 7) (wi := iList K _) rfl sc_law_groups.nd (pi_list (pe_callB (call_sortedDI rfl) (by rfl) Tp.n_sorted (by decide +kernel) (pa_cons (pv 1) pa_nil))) (blkOk_by (N := ["state", "groups", "body", "turn", "joint", "low", "first", "name"]) (by with_unfolding_all rfl)) (fun _ _ _ _ _ => pg_name (i := 7) sc_law_groups.nd rfl (Or.inl rfl)) (fun _ _ _ _ _ => (pts_one (pt_cmpR op_eq (pe_dget (hu_of hr) (pv 1) (pv 7) (fun _ _ => rfl)) (pv 6) (nomark _)))) (fun _ _ _ _ _ => (pv 7))) pa_nil)))) pa_nil))))))), body_P ?_ h⟩
  refine fun ds d r I => ?_
  obtain ⟨st, rfl, hg, rfl⟩ := r
  walk_at "norm"
  have nd := asc_nodup hg.up
  have l1 := hg.len.1
  have l2 := hg.len.2
  refine s_newK fun q hq => ?_
  refine s_loopR (α := List Bd) (bs := st.bs) (f := fun _ b => bdD b) (fun i rest a => st.bs = a ++ rest) (fun _ => [some (.d (stD st)), some (.r q), none, none, none, none, none, none]) (fun a => kJ K q (kvF (a.map (·.nm)) PyData.int) I) [] rfl (iw_t (p_i0 (e_var rfl))) (by rw [List.length_map]) (fun i z h => at0_map h) rfl (fun i z rest a hw => ?_) fun a i hw => ?_
  · refine ⟨_, g_name, .inl ⟨a ++ [z], by rw [hw]; simp, ?_⟩⟩
    have nn : z.nm ∉ a.map (·.nm) := fun m => by
      have : (nmsM st).Nodup := nd
      unfold nmsM at this
      rw [hw, List.map_append, List.nodup_append] at this
      exact this.2.2 _ m _ (by simp) rfl
    refine s_lessN (ρ' := [some (.d (stD st)), some (.r q), some (.d (bdD z)), none, none, none, none, none]) ⟨.inr rfl, .inr rfl, .inl rfl, .inr rfl, .inr rfl, .inr rfl, .inr rfl, .inr rfl, trivial⟩ ?_
    refine s_is (s_putK (x := .int z.nm) (p_i0 (e_var rfl)) rfl (p_i0 (e_var rfl)) (fun m => ?_) ?_ hq) ?_
    · unfold kvF at m
      rw [List.map_map] at m
      obtain ⟨n, hn, e⟩ := List.mem_map.mp m
      have e : (Sum.inl n : Key) = .inl z.nm := e
      exact nn (by injection e with e; rw [← e]; exact hn)
    · rw [kvF_len, List.length_map]
      have := congrArg List.length hw
      rw [List.length_append] at this
      omega
    · unfold kvF
      rw [List.map_append, List.map_append]
      rfl
  rw [List.append_nil] at hw
  subst hw
  have ev0 : ∀ n, PM.runG (lksM st) n id = PM.runG (lksM st) n id := fun _ => rfl
  refine s_loop (α := Int → Int) (fun i g => g = PM.runG (lksM st) i id) (fun _ => [some (.d (stD st)), some (.r q), none, none, none, none, none, none]) (fun g => kJ K q (kvF (nmsM st) fun n => PyData.int (g n)) I) id rfl (iw_r (n := (nmsM st).length) (a_cons (e_is (e_lenKM (q := q) (kvs := kvF (nmsM st) fun n => PyData.int (id n)) (a_cons (e_var rfl) a_nil) (fun G H z => z.1)) (by rw [kvF_len])) a_nil) (by rw [List.length_map]; omega)) rfl (fun i g hi hw => ?_) fun g hw => ?_
  · refine ⟨_, g_name, .inl ⟨PM.runG (lksM st) (i + 1) id, rfl, ?_⟩⟩
    rw [PM.runG_succ, ← hw]
    refine s_lessN (ρ' := [some (.d (stD st)), some (.r q), none, some (.i (i : Nat)), none, none, none, none]) ⟨.inr rfl, .inr rfl, .inr rfl, .inl rfl, .inr rfl, .inr rfl, .inr rfl, .inr rfl, trivial⟩ ?_
    refine s_loopR1 (α := Int → Int) (bs := st.js) (f := fun _ j => jtD j) (fun i rest h => ∃ dn, st.js = dn ++ rest ∧ h = PM.rndG (dn.map fun j => (j.a, j.b)) g) (fun _ => [some (.d (stD st)), some (.r q), none, some (.i (i : Nat)), none, none, none, none]) (fun h => kJ K q (kvF (nmsM st) fun n => PyData.int (h n)) I) g ⟨[], rfl, rfl⟩ (iw_t (p_i1 (e_var rfl))) (by rw [List.length_map]) (fun i z h => at0_map h) rfl (fun i2 z rest h hw2 => ?_) fun h i2 hw2 => ?_
    · obtain ⟨dn, ed, eh⟩ := hw2
      have hz : z ∈ st.js := by rw [ed]; simp
      obtain ⟨ma, mb⟩ := hg.ends (z.a, z.b) (List.mem_map.mpr ⟨z, hz, rfl⟩)
      refine ⟨_, g_name, .inl ⟨PM.lowG h (z.a, z.b), ⟨dn ++ [z], by rw [ed]; simp, by rw [List.map_append, eh]; unfold PM.rndG; rw [List.foldl_append]; rfl⟩, ?_⟩⟩
      have em : (if h z.b < h z.a then h z.b else h z.a) = min (h z.a) (h z.b) := by split <;> omega
      refine s_lessN (ρ' := [some (.d (stD st)), some (.r q), none, some (.i (i : Nat)), some (.d (jtD z)), some (.i (min (h z.a) (h z.b))), none, none]) ⟨.inr rfl, .inr rfl, .inr rfl, .inr rfl, .inl rfl, .inl rfl, .inr rfl, .inr rfl, trivial⟩ ?_
      refine q_asg (d := .i (min (h z.a) (h z.b))) (e_is (e_min2 (i := h z.a) (j := h z.b) (a_cons (e_kGetM (q := q) (kvs := kvF (nmsM st) fun n => PyData.int (h n)) (e_var rfl) (p_i0 (e_var rfl)) (fun G H z => z.1) (kvF_at ma)) (a_cons (e_kGetM (q := q) (kvs := kvF (nmsM st) fun n => PyData.int (h n)) (e_var rfl) (p_i1 (e_var rfl)) (fun G H z => z.1) (kvF_at mb)) a_nil))) (by rw [em])) ?_
      refine s_seq (s_putKG (x := .int (min (h z.a) (h z.b))) (e_var rfl) rfl (p_i0 (e_var rfl)) (by rw [kvF_len, List.length_map]; omega) hq) ?_
      rw [kvF_put (f := fun n => PyData.int (h n)) (g := fun n => PyData.int (PM.put h z.a (min (h z.a) (h z.b)) n)) ma (fun m => by unfold PM.put; split <;> rfl)]
      refine s_is (s_putKG (x := .int (min (h z.a) (h z.b))) (e_var rfl) rfl (p_i1 (e_var rfl)) (by rw [kvF_len, List.length_map]; omega) hq) ?_
      rw [kvF_put (f := fun n => PyData.int (PM.put h z.a (min (h z.a) (h z.b)) n)) (g := fun n => PyData.int (PM.lowG h (z.a, z.b) n)) mb (fun m => by unfold PM.lowG PM.put; split <;> rfl)]
      rfl
    · obtain ⟨dn, ed, eh⟩ := hw2
      rw [List.append_nil] at ed
      rw [eh, ← ed]
      exact s_next
  refine s_freezeK (i := 1) rfl hq ?_
  have hgl := PM.labels hg.up hg.ends
  have ekeys : (kvF (nmsM st) fun n => PyData.int (g n)).map (·.1) = (nmsM st).map Sum.inl := by unfold kvF; rw [List.map_map]; rfl
  have eL := PM.labels_grps hg.up hg.ends (g := g) (fun x hx => by rw [hw]; exact hgl x hx)
  have rowI : ∀ (t : Int → Bool) (f : Int → PyData), rowK (fun j => t ((nmsM st).getD j 0)) (fun j => f ((nmsM st).getD j 0)) (nmsM st).length = ((nmsM st).filter t).map f := fun t f => row_get 0 t f (nmsM st)
  refine p_ret (e_tupOf (p_cons (e_is (e_lcTW (n := ((nmsM st).map PyData.int).length) (b := fun j => decide (g ((nmsM st).getD j 0) = (nmsM st).getD j 0)) (e := fun j => tupI ((nmsM st).filter fun y => decide (g y = (nmsM st).getD j 0))) (iw_ll (e_sortDI (ks := nmsM st) (es := nmsM st) (p_cons (e_var rfl) a_nil) ekeys (by rw [List.length_map]; omega) (List.Perm.refl _) (hg.up.imp fun h => Int.le_of_lt h))) (by rw [List.length_map, List.length_map]; omega) (fun i hi => ?_)) ?_) a_nil))
  rotate_left
  · rw [List.length_map, rowI (fun x => decide (g x = x)) (fun x => tupI ((nmsM st).filter fun y => decide (g y = x))), ← eL, List.map_map]
    rfl
  rw [List.length_map] at hi
  have hx : (nmsM st)[i]? = some ((nmsM st).getD i 0) := by rw [List.getD_eq_getElem?_getD, List.getElem?_eq_getElem hi]; rfl
  have mx := List.mem_of_getElem? hx
  rw [at0_map hx]
  generalize (nmsM st).getD i 0 = x at mx
  refine ⟨_, w_name (by decide), fun I' => t_is (p_test (p_eqI (i := g x) (j := x) (e_kGet (kvs := kvF (nmsM st) fun n => PyData.int (g n)) (e_var rfl) (e_var rfl) (kvF_at mx)) (e_var rfl))) rfl, fun _ I' => e_tupOf (p_cons (e_is (e_lcTW (n := ((nmsM st).map PyData.int).length) (b := fun j => decide (g ((nmsM st).getD j 0) = x)) (e := fun j => PyData.int ((nmsM st).getD j 0)) (iw_ll (e_sortDI (ks := nmsM st) (es := nmsM st) (p_cons (e_var rfl) a_nil) ekeys (by rw [List.length_map]; omega) (List.Perm.refl _) (hg.up.imp fun h => Int.le_of_lt h))) (by rw [List.length_map, List.length_map]; omega) (fun j hj => ?_)) (by rw [List.length_map, rowI (fun y => decide (g y = x)) PyData.int])) a_nil)⟩
  rw [List.length_map] at hj
  have hy : (nmsM st)[j]? = some ((nmsM st).getD j 0) := by rw [List.getD_eq_getElem?_getD, List.getElem?_eq_getElem hj]; rfl
  have my := List.mem_of_getElem? hy
  rw [at0_map hy]
  generalize (nmsM st).getD j 0 = y at my
  exact ⟨_, w_name (by decide), fun I' => p_test (p_eqI (i := g y) (j := x) (e_kGet (kvs := kvF (nmsM st) fun n => PyData.int (g n)) (e_var rfl) (e_var rfl) (kvF_at my)) (e_var rfl)), fun _ I' => e_var rfl⟩
theorem fok_minus (Tp : Top K mg base) : FnOk P w K mg base CX0 2 Tp.f_minus Tp.d_minus ["a", "b"] (spP K (RPlus minusM)) := by
  have G_plus := fok_plus (P := P) (w := w) (base := base) Tp
  refine Tp.F_minus.ok sc_minus (fun vs H Q E h => len_P (fun _ _ z => z.len) h) (fun cdv A outer s H vs Q E hr h => ?_)
  refine ⟨_, (pss_one (ps_ret (pe_call G_plus (hr.mono (by decide)) (by rfl) Tp.g_plus Tp.F_plus.kp Tp.b_plus .nil pass0 (pa_cons (pv 0) (pa_cons (pe_tup (pa_cons (pe_un un_neg (pe_ix (r := rIxT K) ix_tup (pv 1) pe_int (fun _ _ => rfl))) (pa_cons (pe_ix (r := rIxT K) ix_tup (pv 1) pe_int (fun _ _ => rfl)) pa_nil))) pa_nil))))), body_P ?_ h⟩
  refine fun ds d r I => ?_
  obtain ⟨a, b, rfl, ha, hb, rfl⟩ := r
  walk_at "norm"
  have pa := ha.nrm.1
  have pb := hb.nrm.1
  
  refine p_ret (p_call (p_cons ?_ (p_cons (p_frac (x := -b.1) (y := b.2) ?_ rfl) a_nil)) ⟨a, (-b.1, b.2), rfl, ha, ok_neg hb, rfl⟩)
  · walk_at "ev"
  · walk_at "ev"
theorem fok_ends_of (Tp : Top K mg base) : FnOk P w K mg base CX0 2 Tp.f_ends_of Tp.d_ends_of ["box"] (spP K REnds) := by
  have G_plus := fok_plus (P := P) (w := w) (base := base) Tp
  refine Tp.F_ends_of.ok sc_ends_of (fun vs H Q E h => len_P (fun _ _ z => by obtain ⟨_, e, _⟩ := z; rw [e]; rfl) h) (fun cdv A outer s H vs Q E hr h => ?_)
  refine ⟨_, (pss_cons (ps_asg (pv 0) (pg_tup rfl (pgs_cons (pg_tup rfl (pgs_cons (pg_name (i := 1) sc_ends_of.nd rfl (.inl rfl)) (pgs_cons (pg_name (i := 2) sc_ends_of.nd rfl (.inl rfl)) pgs_nil))) (pgs_cons (pg_tup rfl (pgs_cons (pg_name (i := 3) sc_ends_of.nd rfl (.inl rfl)) (pgs_cons (pg_name (i := 4) sc_ends_of.nd rfl (.inl rfl)) pgs_nil))) pgs_nil))))
      (pss_one (ps_ret (pe_tup (pa_cons (pe_tup (pa_cons (pv 1) (pa_cons (pe_call G_plus (hr.mono (by decide)) (by rfl) Tp.g_plus Tp.F_plus.kp Tp.b_plus .nil pass0 (pa_cons (pv 1) (pa_cons (pv 3) pa_nil))) pa_nil))) (pa_cons (pe_tup (pa_cons (pv 2) (pa_cons (pe_call G_plus (hr.mono (by decide)) (by rfl) Tp.g_plus Tp.F_plus.kp Tp.b_plus .nil pass0 (pa_cons (pv 2) (pa_cons (pv 4) pa_nil))) pa_nil))) pa_nil)))))), body_P ?_ h⟩
  refine fun ds d r I => ?_
  obtain ⟨b, rfl, h1, h2, h3, h4, rfl⟩ := r
  walk_at "norm"
  refine s_seq (s_asgG (e_var rfl) (g_tup rfl (g_cons (g_tup rfl (g_cons g_name (g_cons g_name g_nil))) (g_cons (g_tup rfl (g_cons g_name (g_cons g_name g_nil))) g_nil)))) ?_
  refine p_ret (p_tup2 (p_cons (p_tup2 (p_cons (by walk_at "ev") (p_cons (p_call (R := RPlus plusM) (ds := [.d (fr b.p0), .d (fr b.s0)]) (by walk_at "ev") (RPlus.mk h1 h3)) a_nil))) (p_cons (p_tup2 (p_cons (by walk_at "ev") (p_cons (p_call (R := RPlus plusM) (ds := [.d (fr b.p1), .d (fr b.s1)]) (by walk_at "ev") (RPlus.mk h2 h4)) a_nil))) a_nil)))
theorem fok_is_body_sound (Tp : Top K mg base) : FnOk P w K mg base CX0 2 Tp.f_is_body_sound Tp.d_is_body_sound ["body"] (spP K RSound) := by
  have G_is_sized := fok_is_sized (P := P) (w := w) (base := base) Tp
  have G_compare := fok_compare (P := P) (w := w) (base := base) Tp
  refine Tp.F_is_body_sound.ok sc_is_body_sound (fun vs H Q E h => len_P (fun _ _ ⟨_, e, _⟩ => by rw [e]; rfl) h) (fun cdv A outer s H vs Q E hr h => ?_)
  refine ⟨_, (pss_cons (ps_asg (pv 0) (pg_tup rfl (pgs_cons (pg_name (i := 1) sc_is_body_sound.nd rfl (.inl rfl)) (pgs_cons (pg_name (i := 1) sc_is_body_sound.nd rfl (.inl rfl)) (pgs_cons (pg_name (i := 2) sc_is_body_sound.nd rfl (.inl rfl)) (pgs_cons (pg_name (i := 3) sc_is_body_sound.nd rfl (.inl rfl)) (pgs_cons (pg_name (i := 4) sc_is_body_sound.nd rfl (.inl rfl)) (pgs_cons (pg_name (i := 5) sc_is_body_sound.nd rfl (.inl rfl)) pgs_nil))))))))
      (pss_cons (ps_if (PW.pt (pw_or (pt_not (pt_val (pe_call G_is_sized (hr.mono (by decide)) (by rfl) Tp.g_is_sized Tp.F_is_sized.kp Tp.b_is_sized .nil pass0 (pa_cons (pv 2) pa_nil)))) (pw_or (pt_cmpR op_lt (pv 3) pe_int (nomark _)) (pw_or1 (pt_cmpR op_gt (pv 3) (pe_glob (v := .int 1000) (by rfl) Tp.gk_MASS_LIMIT ⟨_, rfl⟩) (nomark _)))))) (pss_one (ps_ret pe_bl)) pss_nil)
      (pss_cons (ps_if (PW.pt (pw_or (pt_cmpR op_lt (pe_call G_compare (hr.mono (by decide)) (by rfl) Tp.g_compare Tp.F_compare.kp Tp.b_compare .nil pass0 (pa_cons (pv 4) (pa_cons (pe_glob (v := .ref Tp.k_ZERO) (by rfl) Tp.gk_ZERO rfl) pa_nil))) pe_int (nomark _)) (pw_or1 (pt_cmpR op_gt (pe_call G_compare (hr.mono (by decide)) (by rfl) Tp.g_compare Tp.F_compare.kp Tp.b_compare .nil pass0 (pa_cons (pv 4) (pa_cons (pe_glob (v := .ref Tp.k_GRIP_LIMIT) (by rfl) Tp.gk_GRIP_LIMIT rfl) pa_nil))) pe_int (nomark _))))) (pss_one (ps_ret pe_bl)) pss_nil)
      (pss_one (ps_ret (pe_or (pe_cmpR op_gt (pv 3) pe_int (nomark _)) (pe_one (pe_cmpR (op_eqD hr.units) (pv 5) (pe_glob (v := .ref Tp.k_STANDING) (by rfl) Tp.gk_STANDING rfl) (nomark _))))))))), body_P ?_ h⟩
  refine fun ds d r I => ?_
  obtain ⟨b, rfl, hb, rfl⟩ := r
  walk_at "norm"
  refine s_seq (s_asgG (e_var rfl) (g_tup rfl (g_cons g_name (g_cons g_name (g_cons g_name (g_cons g_name (g_cons g_name (g_cons g_name g_nil)))))))) ?_
  unfold soundM
  by_cases c1 : (!b.bx.sized || (decide (b.ms < 0) || decide (1000 < b.ms))) = true
  · rw [c1]
    exact s_stop (q_ifT (t_or (t_not (t_B (p_call (R := RSized) (ds := [.t [fr b.bx.s0, fr b.bx.s1]]) (by walk_at "ev") ⟨_, _, rfl, rfl⟩))) fun _ => t_or (p_test (p_lt (i := b.ms) (j := 0) (by walk_at "ev") (by walk_at "ev"))) fun _ => p_test (p_gt (i := b.ms) (j := 1000) (e_var rfl) e_int)) c1 (p_ret e_bl))
  · have c1 := Bool.eq_false_iff.mpr c1
    rw [c1]
    refine q_skip (t_or (t_not (t_B (p_call (R := RSized) (ds := [.t [fr b.bx.s0, fr b.bx.s1]]) (by walk_at "ev") ⟨_, _, rfl, rfl⟩))) fun _ => t_or (p_test (p_lt (i := b.ms) (j := 0) (by walk_at "ev") (by walk_at "ev"))) fun _ => p_test (p_gt (i := b.ms) (j := 1000) (e_var rfl) e_int)) c1 ?_
    by_cases c2 : (decide (cmpM b.gr (0, 1) < 0) || decide (0 < cmpM b.gr (4, 1))) = true
    · rw [c2]
      exact s_stop (q_ifT (t_or (p_test (p_lt (i := cmpM b.gr (0, 1)) (j := 0) (p_call (R := RCmp) (ds := [.d (fr b.gr), .d (fr ((0, 1) : F))]) (p_cons (e_var rfl) (p_cons (e_glob (dp_const Tp.dk_ZERO fun G => .cons (.int 0) (.cons (.int 1) .nil))) a_nil)) ⟨_, _, rfl, hb.gr.mono (by decide), ok_c0 (by decide), rfl⟩) e_int)) fun _ => p_test (p_gt (i := cmpM b.gr (4, 1)) (j := 0) (p_call (R := RCmp) (ds := [.d (fr b.gr), .d (fr ((4, 1) : F))]) (p_cons (e_var rfl) (p_cons (e_glob (dp_const Tp.dk_GRIP_LIMIT fun G => .cons (.int 4) (.cons (.int 1) .nil))) a_nil)) ⟨_, _, rfl, hb.gr.mono (by decide), ok_c4.mono (by decide), rfl⟩) e_int)) c2 (p_ret e_bl))
    · have c2 := Bool.eq_false_iff.mpr c2
      rw [c2]
      refine q_skip (t_or (p_test (p_lt (i := cmpM b.gr (0, 1)) (j := 0) (p_call (R := RCmp) (ds := [.d (fr b.gr), .d (fr ((0, 1) : F))]) (p_cons (e_var rfl) (p_cons (e_glob (dp_const Tp.dk_ZERO fun G => .cons (.int 0) (.cons (.int 1) .nil))) a_nil)) ⟨_, _, rfl, hb.gr.mono (by decide), ok_c0 (by decide), rfl⟩) e_int)) fun _ => p_test (p_gt (i := cmpM b.gr (4, 1)) (j := 0) (p_call (R := RCmp) (ds := [.d (fr b.gr), .d (fr ((4, 1) : F))]) (p_cons (e_var rfl) (p_cons (e_glob (dp_const Tp.dk_GRIP_LIMIT fun G => .cons (.int 4) (.cons (.int 1) .nil))) a_nil)) ⟨_, _, rfl, hb.gr.mono (by decide), ok_c4.mono (by decide), rfl⟩) e_int)) c2 ?_
      exact p_ret (e_orV (p_gt (i := b.ms) (j := 0) (e_var rfl) e_int) fun _ => p_eqD (x := vcd b.v0 b.v1) (y := vcd (0, 1) (0, 1)) (e_var rfl) (e_glob Tp.dk_STANDING) rfl rfl)
theorem fok_are_moving_names (Tp : Top K mg base) : FnOk P w K mg base CX0 2 Tp.f_are_moving_names Tp.d_are_moving_names ["bodies", "names"] (spP K RMovN) := by
  have G_is_moving := fok_is_moving (P := P) (w := w) (base := base) Tp
  refine Tp.F_are_moving_names.ok sc_are_moving_names (fun vs H Q E h => len_P (fun _ _ ⟨_, _, e, _⟩ => by rw [e]; rfl) h) (fun cdv A outer s H vs Q E hr h => ?_)
  refine ⟨_, (pss_cons (PX.ps_setDc (i := 2) (own := [("body", 5)]) (tt := tYes) rfl sc_are_moving_names.nd rfl rfl (PX.sw_trueD rfl rfl rfl rfl) (pi_tup (pv 0)) (blkOk_by (N := ["bodies", "names", "moving", "before", "name", "body"]) (sc := defScope s_are_moving_names) (by decide +kernel)) (fun _ _ _ _ _ => (pg_name (i := 5) sc_are_moving_names.nd rfl (Or.inl rfl))) (fun _ _ _ _ _ => pts_nil) (fun _ _ _ _ _ => (pe_ix (r := rIxT K) ix_tup (pv 5) pe_int (fun _ _ => rfl))) (fun _ _ _ _ _ => (pe_call G_is_moving (hr.mono (by decide)) (by rfl) Tp.g_is_moving Tp.F_is_moving.kp Tp.b_is_moving .nil pass0 (pa_cons (pv 5) pa_nil))))
      (pss_cons (ps_set (i := 3) sc_are_moving_names.nd rfl (.inl rfl) (pe_un un_neg pe_int))
      (pss_cons (ps_for PassesOwn.never rfl (pi_list (pv 1)) (pg_name (i := 4) sc_are_moving_names.nd rfl (.inl rfl)) (pss_cons (ps_if (PW.pt (pw_or (pt_cmpR op_le (pv 4) (pv 3) (nomark _)) (pw_or1 (pt_not (pt_val (pe_dget2 (hu_of hr) (pv 2) (pv 4) pe_bl ⟨rfl, rfl, rfl, rfl⟩)))))) (pss_one (ps_ret pe_bl)) pss_nil)
      (pss_one (ps_set (i := 3) sc_are_moving_names.nd rfl (.inl rfl) (pv 4)))))
      (pss_one (ps_ret pe_bl))))), body_P ?_ h⟩
  refine fun ds d r I => ?_
  obtain ⟨bs, ns, rfl, nd, hl, rfl⟩ := r
  walk_at "norm"
  refine q_asg (d := .k (movM bs)) (e_dcW (ks := bs.map (·.nm)) (es := bs.map fun z => .bool (decide (0 < z.ms))) (iw_t (e_var rfl)) (by rw [List.length_map, List.length_map]) (by rw [List.length_map, List.length_map]) (by rw [List.length_map]; exact hl) nd fun i m y hi hm hy => ?_) ?_
  ·
    obtain ⟨z, hz, rfl⟩ := getElem?_of_map hy
    rw [List.getElem?_map, hz] at hm
    obtain rfl : z.nm = m := Option.some.inj hm
    rw [at0_map hz]
    exact ⟨_, w_name List.mem_cons_self, fun I' => p_i0 (e_var rfl), fun I' => p_call (R := RMoving) (ds := [.d (bdD z)]) (by walk_at "ev") ⟨z, rfl, rfl⟩⟩
  refine q_asg (d := .i (-1)) (by walk_at "ev") ?_
  cases h0 : badN bs (-1) ns with
  | false =>
    refine s_loopR (α := Int) (bs := ns) (f := fun _ z => PyData.int z) (fun i rest bf => badN bs bf rest = false) (fun bf => [some (.t (bs.map bdD)), some (.d (.list (ns.map PyData.int))), some (.k (movM bs)), some (.i bf), none, none]) (fun _ => I) (-1) h0 (iw_l (e_var rfl)) (by rw [List.length_map]) (fun i z h => at0_map h) rfl (fun i z rest bf hw => ?_) (fun bf i hw => p_ret e_bl)
    have h1 : ((decide (z ≤ bf) || !movB bs z) || badN bs z rest) = false := hw
    rw [Bool.or_eq_false_iff] at h1
    refine ⟨_, g_name, .inl ⟨z, h1.2, ?_⟩⟩
    refine s_lessN (ρ' := [some (.t (bs.map bdD)), some (.d (.list (ns.map PyData.int))), some (.k (movM bs)), some (.i z), some (.i z), none]) ⟨.inr rfl, .inr rfl, .inr rfl, .inr rfl, .inl rfl, .inr rfl, trivial⟩ ?_
    exact q_skip (t_or (p_test (p_le (i := z) (j := bf) (e_var rfl) (e_var rfl))) fun _ => t_not (t_B (e_kGetOr (y := .bool false) (e_var rfl) (e_var rfl) e_bl (by rw [mov_get])))) h1.1 (p_asg (by walk_at "ev"))
  | true =>
    refine s_loopR (α := Int) (bs := ns) (f := fun _ z => PyData.int z) (fun i rest bf => badN bs bf rest = true) (fun bf => [some (.t (bs.map bdD)), some (.d (.list (ns.map PyData.int))), some (.k (movM bs)), some (.i bf), none, none]) (fun _ => I) (-1) h0 (iw_l (e_var rfl)) (by rw [List.length_map]) (fun i z h => at0_map h) rfl (fun i z rest bf hw => ?_) (fun bf i hw => (by cases hw))
    have h1 : ((decide (z ≤ bf) || !movB bs z) || badN bs z rest) = true := hw
    by_cases c : (decide (z ≤ bf) || !movB bs z) = true
    · exact ⟨_, g_name, .inr ⟨ret_rt, s_stopR ret_rt (q_ifT (t_or (p_test (p_le (i := z) (j := bf) (e_var rfl) (e_var rfl))) fun _ => t_not (t_B (e_kGetOr (y := .bool false) (e_var rfl) (e_var rfl) e_bl (by rw [mov_get])))) c (p_ret e_bl))⟩⟩
    · have c := Bool.eq_false_iff.mpr c
      rw [c, Bool.false_or] at h1
      refine ⟨_, g_name, .inl ⟨z, h1, ?_⟩⟩
      refine s_lessN (ρ' := [some (.t (bs.map bdD)), some (.d (.list (ns.map PyData.int))), some (.k (movM bs)), some (.i z), some (.i z), none]) ⟨.inr rfl, .inr rfl, .inr rfl, .inr rfl, .inl rfl, .inr rfl, trivial⟩ ?_
      exact q_skip (t_or (p_test (p_le (i := z) (j := bf) (e_var rfl) (e_var rfl))) fun _ => t_not (t_B (e_kGetOr (y := .bool false) (e_var rfl) (e_var rfl) e_bl (by rw [mov_get])))) c (p_asg (by walk_at "ev"))
theorem fok_most_from (Tp : Top K mg base) : FnOk P w K mg base CX0 2 Tp.f_most_from Tp.d_most_from ["bounds", "start"] (spP K RMost) := by
  have G_plus := fok_plus (P := P) (w := w) (base := base) Tp
  have G_compare := fok_compare (P := P) (w := w) (base := base) Tp
  refine Tp.F_most_from.ok sc_most_from (fun vs H Q E h => len_P (fun _ _ ⟨_, _, e, _⟩ => by rw [e]; rfl) h) (fun cdv A outer s H vs Q E hr h => ?_)
  refine ⟨_, (pss_cons (ps_set (i := 2) sc_most_from.nd rfl (.inl rfl) (pe_disp (pps_cons (pv 1) (pe_glob (v := .ref Tp.k_ZERO) (by rfl) Tp.gk_ZERO rfl) pps_nil) (by rfl) (by rfl) (fun z => by cases z) (by decide)))
      (pss_cons (ps_set (i := 3) sc_most_from.nd rfl (.inl rfl) pe_bl)
      (pss_cons (ps_while PassesOwn.never (pt_val (pv 3)) (pss_cons (ps_set (i := 3) sc_most_from.nd rfl (.inl rfl) pe_bl)
      (pss_one (ps_for PassesOwn.never rfl (pi_list (pv 0)) (pg_tup rfl (pgs_cons (pg_name (i := 4) sc_most_from.nd rfl (.inl rfl)) (pgs_cons (pg_name (i := 5) sc_most_from.nd rfl (.inl rfl)) (pgs_cons (pg_name (i := 6) sc_most_from.nd rfl (.inl rfl)) pgs_nil)))) (pss_one (ps_if (pt_cmp (pc_din (hu_of hr) (pv 4) (pv 2)) rfl) (pss_cons (ps_set (i := 7) sc_most_from.nd rfl (.inl rfl) (pe_call G_plus (hr.mono (by decide)) (by rfl) Tp.g_plus Tp.F_plus.kp Tp.b_plus .nil pass0 (pa_cons (pe_dget (hu_of hr) (pv 2) (pv 4) (fun _ _ => rfl)) (pa_cons (pv 6) pa_nil))))
      (pss_one (ps_if (PW.pt (pw_or (pt_cmp (pc_dnotin (hu_of hr) (pv 5) (pv 2)) rfl) (pw_or1 (pt_cmpR op_lt (pe_call G_compare (hr.mono (by decide)) (by rfl) Tp.g_compare Tp.F_compare.kp Tp.b_compare .nil pass0 (pa_cons (pv 7) (pa_cons (pe_dget (hu_of hr) (pv 2) (pv 5) (fun _ _ => rfl)) pa_nil))) pe_int (nomark _))))) (pss_cons (ps_dput (hu_of hr) (pv 2) (pv 5) (pv 7) rfl)
      (pss_one (ps_set (i := 3) sc_most_from.nd rfl (.inl rfl) pe_bl))) pss_nil))) pss_nil))))))
      (pss_one (ps_ret (pv 2)))))), body_P ?_ h⟩
  refine fun ds d r I => ?_
  obtain ⟨es, st, rfl, ⟨ns, y0, mk⟩, rfl⟩ := r
  walk_at "norm"
  refine s_disp1 (m := st) (y := fr (0, 1)) (fun I' => e_var rfl) (fun I' => (e_glob (dp_const Tp.dk_ZERO fun G => .cons (.int 0) (.cons (.int 1) .nil)))) fun q hq => ?_
  rw [show [((.inl st : Key), fr (0, 1))] = kvF (ms0 st).ks (fun n => fr ((ms0 st).v n)) from rfl]
  refine q_asg (d := .b true) e_bl ?_
  obtain ⟨nf, ef, cf⟩ := most_is mk
  refine s_seq (s_while (α := MS × Bool) (fun a => (∃ n, a.1 = runM es n (ms0 st)) ∧ MI ns es y0 st a.1 ∧ (a.2 = false → hitM es a.1 = false)) (fun a => [some (.d (.list (es.map feD))), some (.i st), some (.r q), some (.b a.2), none, none, none, none]) (fun a => kJ K q (kvF a.1.ks fun n => fr (a.1.v n)) I) (fun a => 2 * leftM ns y0 st a.1 + (if a.2 = true then 1 else 0)) (ms0 st, true) ⟨⟨0, rfl⟩, mi_start mk, fun z => by cases z⟩ (k := .nx [some (.d (.list (es.map feD))), some (.i st), some (.r q), some (.b false), none, none, none, none] (kJ K q (kvF (mostM es st).ks fun n => fr ((mostM es st).v n)) I)) fun a iv => ?_) ?_
  · obtain ⟨s, fo⟩ := a
    obtain ⟨⟨n, en⟩, hi, hc⟩ := iv
    replace en : s = runM es n (ms0 st) := en
    replace hi : MI ns es y0 st s := hi
    cases fo with
    | false =>
      refine .inr ⟨p_test (e_var rfl), ?_⟩
      have e : s = mostM es st := by
        rw [ef]
        refine en.trans ?_
        exact run_same (by rw [← en]; exact hc rfl) cf
      rw [e]
    | true =>
      refine .inl ⟨p_test (e_var rfl), .inl ⟨(pasM es s, hitM es s), ⟨⟨n + 1, by rw [en]; exact (runM_succ es n (ms0 st)).symm⟩, (mi_pas mk hi es fun e he => he).1, fun z => ?_⟩, ?_, ?_⟩⟩
      · show hitM es (pasM es s) = false
        rw [pas_same z]
        exact z
      · have h := mi_pas mk hi es fun e he => he
        show 2 * leftM ns y0 st (pasM es s) + (if hitM es s = true then 1 else 0) < 2 * leftM ns y0 st s + 1
        cases c : hitM es s with
        | true =>
          have := h.2 c
          rw [if_pos rfl]
          omega
        | false =>
          rw [pas_same c, if_neg (by decide)]
          omega
      · refine q_asg (d := .b false) e_bl ?_
        refine s_loopR1 (α := MS × Bool) (bs := es) (f := fun _ e => feD e) (fun i rest a => ∃ dn, es = dn ++ rest ∧ a = (pasM dn s, hitM dn s) ∧ MI ns es y0 st a.1) (fun a => [some (.d (.list (es.map feD))), some (.i st), some (.r q), some (.b a.2), none, none, none, none]) (fun a => kJ K q (kvF a.1.ks fun n => fr (a.1.v n)) I) (s, false) ⟨[], rfl, rfl, hi⟩ (iw_l (e_var rfl)) (by rw [List.length_map]) (fun i z h => at0_map h) rfl (fun i e rest a hw => ?_) fun a i hw => ?_
        rotate_left
        · obtain ⟨dn, ed, rfl, _⟩ := hw
          rw [List.append_nil] at ed
          subst ed
          exact s_next
        obtain ⟨dn, ed, ea, ha⟩ := hw
        have hme : e ∈ es := by rw [ed]; simp
        obtain ⟨s1, fo⟩ := a
        have ha : MI ns es y0 st s1 := ha
        have es1 : s1 = pasM dn s := congrArg Prod.fst ea
        have ef1 : fo = hitM dn s := congrArg Prod.snd ea
        have stp := mi_step mk ha hme
        refine ⟨_, g_tup rfl (g_cons g_name (g_cons g_name (g_cons g_name g_nil))), .inl ⟨(stM s1 e, fo || hit s1 e), ⟨dn ++ [e], by rw [ed]; simp, by rw [pasM_snoc, hitM_snoc, ← es1, ← ef1], stp.1⟩, ?_⟩⟩
        obtain ⟨x, y, n0⟩ := e
        have hE := mk.en _ hme
        have sn : Sm 300 802 n0 := mk.sm _ hme
        dsimp only at hE
        have IN : ∀ I', T K (tTest (tDIn (tVar 4) (tVar 2))) ([some (.d (.list (es.map feD))), some (.i st), some (.r q), some (.b fo), some (.i x), some (.i y), some (.d (fr n0)), none]) (kJ K q (kvF s1.ks fun n => fr (s1.v n)) I') (decide (x ∈ s1.ks)) (kJ K q (kvF s1.ks fun n => fr (s1.v n)) I') := fun I' => t_is (t_test (e_kInM (q := q) (kvs := kvF s1.ks fun n => fr (s1.v n)) (e_var rfl) (e_var rfl) (fun G H z => z.1))) kvF_in
        by_cases c : x ∈ s1.ks
        rotate_left
        · have e1 : stM s1 (x, y, n0) = s1 := if_neg c
          have e2 : hit s1 (x, y, n0) = false := by
            unfold hit
            rw [decide_eq_false c]
            rfl
          rw [e1, e2, Bool.or_false]
          refine s_lessN (ρ' := [some (.d (.list (es.map feD))), some (.i st), some (.r q), some (.b fo), some (.i x), some (.i y), some (.d (fr n0)), none]) ⟨.inr rfl, .inr rfl, .inr rfl, .inr rfl, .inl rfl, .inl rfl, .inl rfl, .inr rfl, trivial⟩ ?_
          exact q_ifF (IN I) (decide_eq_false c) s_next
        have hvx := ha.sm x c
        have hr := hvx.plus sn
        refine s_lessN (ρ' := [some (.d (.list (es.map feD))), some (.i st), some (.r q), some (.b (fo || hit s1 (x, y, n0))), some (.i x), some (.i y), some (.d (fr n0)), some (.d (fr (plusM (s1.v x) n0)))]) ⟨.inr rfl, .inr rfl, .inr rfl, .inr rfl, .inl rfl, .inl rfl, .inl rfl, .inl rfl, trivial⟩ ?_
        refine q_ifT (IN I) (decide_eq_true c) ?_
        refine q_asg (d := .d (fr (plusM (s1.v x) n0))) (p_call (R := RPlus plusM) (ds := [.d (fr (s1.v x)), .d (fr n0)]) (p_cons (e_kGetM (q := q) (kvs := kvF s1.ks fun n => fr (s1.v n)) (e_var rfl) (e_var (i := 4) rfl) (fun G H z => z.1) (kvF_at c)) (p_cons (e_var rfl) a_nil)) (RPlus.mk (hvx.ok (k := 40) (by decide) (by decide) (by decide)) (sn.ok (k := 40) (by decide) (by decide) (by decide)))) ?_
        have okr : PL.Ok 40 (plusM (s1.v x) n0) := hr.ok (by decide) (by decide) (by decide)
        by_cases c2 : y ∈ s1.ks
        · have hvy := ha.sm y c2
          by_cases c3 : cmpM (plusM (s1.v x) n0) (s1.v y) < 0
          · have e1 : stM s1 (x, y, n0) = ⟨s1.ks, putF s1.v y (plusM (s1.v x) n0)⟩ := by
              unfold stM
              rw [if_pos c, if_neg (fun z => z c2), if_pos c3]
            have e2 : hit s1 (x, y, n0) = true := by
              unfold hit
              rw [decide_eq_true c, decide_eq_true c3, Bool.or_true]
              rfl
            rw [e1, e2, Bool.or_true]
            refine q_ifT (t_is (t_or (t_test (e_kNotM (q := q) (kvs := kvF s1.ks fun n => fr (s1.v n)) (e_var rfl) (e_var rfl) (fun G H z => z.1))) fun _ => p_test (p_lt (i := cmpM (plusM (s1.v x) n0) (s1.v y)) (j := 0) (p_call (R := RCmp) (ds := [.d (fr (plusM (s1.v x) n0)), .d (fr (s1.v y))]) (p_cons (e_var rfl) (p_cons (e_kGetM (q := q) (kvs := kvF s1.ks fun n => fr (s1.v n)) (e_var rfl) (e_var (i := 5) rfl) (fun G H z => z.1) (kvF_at c2)) a_nil)) ⟨_, _, rfl, okr.mono (by decide), (hvy.ok (k := 40) (by decide) (by decide) (by decide)).mono (by decide), rfl⟩) e_int)) (by rw [kvF_in, decide_eq_true c2]; rfl)) (decide_eq_true c3) ?_
            refine s_seq (s_putKG (x := fr (plusM (s1.v x) n0)) (e_var rfl) rfl (e_var rfl) (by rw [kvF_len]; exact ha.len) hq) ?_
            rw [kvF_put (f := fun n => fr (s1.v n)) (g := fun n => fr (putF s1.v y (plusM (s1.v x) n0) n)) c2 (fun m => by unfold putF; split <;> rfl)]
            exact p_asg e_bl
          · have e1 : stM s1 (x, y, n0) = s1 := by
              unfold stM
              rw [if_pos c, if_neg (fun z => z c2), if_neg c3]
            have e2 : hit s1 (x, y, n0) = false := by
              unfold hit
              rw [decide_eq_true c, decide_eq_false c3, decide_eq_false (fun z => z c2)]
              rfl
            rw [e1, e2, Bool.or_false]
            exact q_ifF (t_is (t_or (t_test (e_kNotM (q := q) (kvs := kvF s1.ks fun n => fr (s1.v n)) (e_var rfl) (e_var rfl) (fun G H z => z.1))) fun _ => p_test (p_lt (i := cmpM (plusM (s1.v x) n0) (s1.v y)) (j := 0) (p_call (R := RCmp) (ds := [.d (fr (plusM (s1.v x) n0)), .d (fr (s1.v y))]) (p_cons (e_var rfl) (p_cons (e_kGetM (q := q) (kvs := kvF s1.ks fun n => fr (s1.v n)) (e_var rfl) (e_var (i := 5) rfl) (fun G H z => z.1) (kvF_at c2)) a_nil)) ⟨_, _, rfl, okr.mono (by decide), (hvy.ok (k := 40) (by decide) (by decide) (by decide)).mono (by decide), rfl⟩) e_int)) (by rw [kvF_in, decide_eq_true c2]; rfl)) (decide_eq_false c3) s_next
        · have e1 : stM s1 (x, y, n0) = ⟨s1.ks ++ [y], putF s1.v y (plusM (s1.v x) n0)⟩ := by
            unfold stM
            rw [if_pos c, if_pos c2]
          have e2 : hit s1 (x, y, n0) = true := by
            unfold hit
            rw [decide_eq_true c, decide_eq_true c2]
            rfl
          rw [e1, e2, Bool.or_true]
          refine q_ifT (b := true) (t_orT (t_is (t_test (e_kNotM (q := q) (kvs := kvF s1.ks fun n => fr (s1.v n)) (e_var rfl) (e_var rfl) (fun G H z => z.1))) (by rw [kvF_in, decide_eq_false c2]; rfl))) rfl ?_
          refine s_seq (s_putKG (x := fr (plusM (s1.v x) n0)) (e_var rfl) rfl (e_var rfl) (by rw [kvF_len]; exact ha.len) hq) ?_
          rw [kvF_new (f := fun n => fr (s1.v n)) (g := fun n => fr (putF s1.v y (plusM (s1.v x) n0) n)) c2 (fun m => by unfold putF; split <;> rfl)]
          exact p_asg e_bl
  refine s_freezeK (i := 2) rfl hq ?_
  exact p_ret (e_var rfl)
theorem fok_law_signed (Tp : Top K mg base) : FnOk P w K mg base CX0 2 Tp.f_law_signed Tp.d_law_signed ["d", "most"] (spW K RSigned) := by
  have G_law_take := fok_law_take (P := P) (w := w) (base := base) Tp
  refine Tp.F_law_signed.ok sc_law_signed (fun vs H Q E h => len_W (fun _ _ _ _ ⟨_, e, _⟩ => by rw [e]; rfl) h) (fun cdv A outer s H vs Q E hr h => ?_)
  refine ⟨_, (pss_one (ps_ret (pe_op op_sub (pe_call G_law_take (hr.mono (by decide)) (by rfl) Tp.g_law_take Tp.F_law_take.kp Tp.b_law_take .nil pass0 (pa_cons (pv 0) (pa_cons (pe_op op_add (pe_op op_mulW pe_int (pv 1)) pe_int) pa_nil))) (pv 1)))), body_W ?_ h⟩
  refine fun ds C d C' r p J hf => ?_
  obtain ⟨m, rfl, ok, hm, hz, rfl, rfl⟩ := r
  walk_at "norm"
  refine s_ret (e_sub (e_draw (R := RTake) (ds := [.i (2 * m + 1)]) (C := C) (p_cons (e_var rfl) (p_cons (p_add (p_mul e_int (e_var rfl) (mulW (m := 2) (n := 8000) (by decide) hz (by decide))) e_int) a_nil)) ⟨_, rfl, ok, by omega, ?_, rfl, rfl⟩ hf) (e_var rfl))
  exact sz_le (n := 8500) (sz_add (m := 8002) (sz_mul (m := 2) (n := 8000) (by decide) hz) (Nat.lt_of_lt_of_le (show (1 : Int).natAbs < 2 ^ 1 by decide) (Nat.pow_le_pow_right (by decide) (by decide)))) (by decide)
theorem fok_law_f (Tp : Top K mg base) : FnOk P w K mg base CX0 2 Tp.f_law_f Tp.d_law_f ["a", "b"] (spP K RF) := by
  have G_law_gcd := fok_law_gcd (P := P) (w := w) (base := base) Tp
  refine Tp.F_law_f.ok sc_law_f (fun vs H Q E h => len_P (fun _ _ ⟨_, _, e, _⟩ => by rw [e]; rfl) h) (fun cdv A outer s H vs Q E hr h => ?_)
  refine ⟨_, (pss_cons (ps_if (pt_cmpR op_lt (pv 1) pe_int (nomark _)) (pss_cons (ps_set (i := 0) sc_law_f.nd rfl (.inl rfl) (pe_op op_sub pe_int (pv 0)))
      (pss_one (ps_set (i := 1) sc_law_f.nd rfl (.inl rfl) (pe_op op_sub pe_int (pv 1))))) pss_nil)
      (pss_cons (ps_set (i := 2) sc_law_f.nd rfl (.inl rfl) (pe_call G_law_gcd (hr.mono (by decide)) (by rfl) Tp.g_law_gcd Tp.F_law_gcd.kp Tp.b_law_gcd .nil pass0 (pa_cons (pe_callB call_abs (by rfl) Tp.n_abs (by decide +kernel) (pa_cons (pv 0) pa_nil)) (pa_cons (pv 1) pa_nil))))
      (pss_one (ps_ret (pe_tup (pa_cons (pe_op op_fdivW (pv 0) (pv 2)) (pa_cons (pe_op op_fdivW (pv 1) (pv 2)) pa_nil))))))), body_P ?_ h⟩
  refine fun ds d r I => ?_
  obtain ⟨x, y, rfl, h0, hx, hy, rfl⟩ := r
  walk_at "norm"
  refine s_seq (ρ1 := [some (.i (if y < 0 then 0 - x else x)), some (.i (if y < 0 then 0 - y else y)), none]) (J := I) ?_ ?_
  · by_cases h : y < 0
    · rw [if_pos h, if_pos h]
      exact q_ifT (p_test (p_lt (i := y) (j := 0) (by walk_at "ev") (by walk_at "ev"))) (decide_eq_true h) (q_asg (d := .i (0 - x)) (by walk_at "ev") (p_asg (d := .i (0 - y)) (by walk_at "ev")))
    · rw [if_neg h, if_neg h]
      exact q_ifF (p_test (p_lt (i := y) (j := 0) (by walk_at "ev") (by walk_at "ev"))) (decide_eq_false h) s_next
  · have e : lf x y = nf (if y < 0 then 0 - x else x) (if y < 0 then 0 - y else y) := by
      unfold lf
      split <;> rfl
    rw [e]
    have h0' : 0 < (if y < 0 then 0 - y else y) := by split <;> omega
    have hx' : (if y < 0 then 0 - x else x).natAbs < 2 ^ 8500 := by
      split
      · rw [Int.zero_sub, Int.natAbs_neg]; exact hx
      · exact hx
    have hy' : (if y < 0 then 0 - y else y).natAbs < 2 ^ 8500 := by
      split
      · rw [Int.zero_sub, Int.natAbs_neg]; exact hy
      · exact hy
    generalize (if y < 0 then 0 - y else y) = v at *
    generalize (if y < 0 then 0 - x else x) = u at *
    have g0 : Int.gcd u v ≠ 0 := Int.gcd_ne_zero_right (by omega)
    have hg : (0 : Int) < (Int.gcd u v : Nat) := by omega
    have zg : ((Int.gcd u v : Nat) : Int).natAbs < 2 ^ 8500 := sz_gcd hy' (by omega)
    refine q_asg (d := .i (Int.gcd u v : Nat)) (e_is (p_call (R := RGcd) (ds := [.i (u.natAbs : Nat), .i v]) (by walk_at "ev") ⟨_, _, rfl, by omega, by omega, rfl⟩) (by rw [gcd_abs])) ?_
    refine p_ret (p_frac (x := u / (Int.gcd u v : Nat)) (y := v / (Int.gcd u v : Nat)) ?_ rfl)
    walk_at "ev"
    · exact divW hg zg (by decide)
    · exact divW hg zg (by decide)
theorem fok_law_max (Tp : Top K mg base) : FnOk P w K mg base CX0 2 Tp.f_law_max Tp.d_law_max ["a", "b"] (spP K RMax) := by
  have G_law_less := fok_law_less (P := P) (w := w) (base := base) Tp
  refine Tp.F_law_max.ok sc_law_max (fun vs H Q E h => len_P (fun _ _ ⟨_, _, e, _⟩ => by rw [e]; rfl) h) (fun cdv A outer s H vs Q E hr h => ?_)
  refine ⟨_, (pss_one (ps_ret (pe_ifExp (pt_val (pe_call G_law_less (hr.mono (by decide)) (by rfl) Tp.g_law_less Tp.F_law_less.kp Tp.b_law_less .nil pass0 (pa_cons (pv 0) (pa_cons (pv 1) pa_nil)))) (pv 1) (pv 0)))), body_P ?_ h⟩
  refine fun ds d r I => ?_
  obtain ⟨x, y, rfl, hx, hy, rfl⟩ := r
  walk_at "norm"
  refine p_ret ?_
  unfold lmx
  by_cases c : less x y = true
  · rw [if_pos c]
    exact e_ifT (t_is (t_B (p_call (R := RLess) (ds := [.d (fr x), .d (fr y)]) (by walk_at "ev") ⟨_, _, rfl, hx, hy, rfl⟩)) c) (by walk_at "ev")
  · rw [if_neg c]
    exact e_ifF (t_is (t_B (p_call (R := RLess) (ds := [.d (fr x), .d (fr y)]) (by walk_at "ev") ⟨_, _, rfl, hx, hy, rfl⟩)) (Bool.eq_false_iff.mpr c)) (by walk_at "ev")
theorem fok_ends_overlap (Tp : Top K mg base) : FnOk P w K mg base CX0 3 Tp.f_ends_overlap Tp.d_ends_overlap ["one", "other"] (spT K Tp.tabs (RPairs lt0)) := by
  have G_compare := fok_compare (P := P) (w := w) (base := base) Tp
  refine Tp.F_ends_overlap.ok sc_ends_overlap (fun vs H Q E h => len_P (fun _ _ ⟨_, _, e, _⟩ => by rw [e]; rfl) h) (fun A outer s H vs Q E hr h => ?_)
  refine ⟨_, (pss_one (ps_ret (GX.pe_all (own := [("axis", 2)]) hr (by rfl) Tp.n_all (by decide +kernel) Tp.tb_ends_overlap rfl (blkOk_by (N := ["one", "other", "axis"]) (sc := defScope s_ends_overlap) (by decide +kernel)) ⟨rfl, by decide +kernel, rfl⟩ sc_ends_overlap.nd (pi_tup (pe_tup (pa_cons pe_int (pa_cons pe_int pa_nil)))) (fun _ _ _ _ _ _ _ => (pg_name (i := 2) sc_ends_overlap.nd rfl (Or.inl rfl))) (fun _ _ _ _ _ _ hr => pts_nil) (fun _ _ _ _ _ _ hr => (pe_and (pe_cmpR op_lt (pe_call G_compare (hr.mono (by decide)) (by rfl) Tp.g_compare Tp.F_compare.kp Tp.b_compare .nil pass0 (pa_cons (pe_ix (r := rIxT K) ix_tup (pe_ix (r := rIxT K) ix_tup (pv 1) (pv 2) (fun _ _ => rfl)) pe_int (fun _ _ => rfl)) (pa_cons (pe_ix (r := rIxT K) ix_tup (pe_ix (r := rIxT K) ix_tup (pv 0) (pv 2) (fun _ _ => rfl)) pe_int (fun _ _ => rfl)) pa_nil))) pe_int (nomark _)) (pe_one (pe_cmpR op_lt (pe_call G_compare (hr.mono (by decide)) (by rfl) Tp.g_compare Tp.F_compare.kp Tp.b_compare .nil pass0 (pa_cons (pe_ix (r := rIxT K) ix_tup (pe_ix (r := rIxT K) ix_tup (pv 0) (pv 2) (fun _ _ => rfl)) pe_int (fun _ _ => rfl)) (pa_cons (pe_ix (r := rIxT K) ix_tup (pe_ix (r := rIxT K) ix_tup (pv 1) (pv 2) (fun _ _ => rfl)) pe_int (fun _ _ => rfl)) pa_nil))) pe_int (nomark _))))) (fun _ => rfl)))), body_T ?_ h⟩
  refine fun ds d r I hT => ?_
  obtain ⟨a, b, rfl, ha, hb, rfl⟩ := r
  walk_at "norm"
  refine p_ret (e_is (e_genT (T' := Tp.tabs) (P := Tp.tp_ends_overlap) (ds := [.int 0, .int 1]) (ks := [(true, (lt0 (cmpM b.p0 (plusM a.p0 a.s0)) 0 && lt0 (cmpM a.p0 (plusM b.p0 b.s0)) 0)), (true, (lt0 (cmpM b.p1 (plusM a.p1 a.s1)) 0 && lt0 (cmpM a.p1 (plusM b.p1 b.s1)) 0))]) (by first | exact List.mem_cons_self | exact List.mem_cons_of_mem _ List.mem_cons_self) (p_tup2 (by walk_at "ev")) rfl fun i x p hx hp => ?_) ?_)
  · match i, hx, hp with
    | 0, hx, hp =>
      obtain rfl := Option.some.inj hx
      obtain rfl := Option.some.inj hp
      exact ⟨_, w_name List.mem_cons_self, t_yes, fun _ => e_andV (p_lt (p_call (R := RCmp) (ds := [.d (fr b.p0), .d (fr (plusM a.p0 a.s0))]) (p_cons (p_i0 (p_ixT (ds := [vcd b.p0 (plusM b.p0 b.s0), vcd b.p1 (plusM b.p1 b.s1)]) (i := 0) (e_var rfl) (e_var rfl) rfl)) (p_cons (p_i1 (p_ixT (ds := [vcd a.p0 (plusM a.p0 a.s0), vcd a.p1 (plusM a.p1 a.s1)]) (i := 0) (e_var rfl) (e_var rfl) rfl)) a_nil)) ⟨_, _, rfl, hb.p0.mono (by decide), ha.h0, rfl⟩) (by walk_at "ev")) fun _ => p_lt (p_call (R := RCmp) (ds := [.d (fr a.p0), .d (fr (plusM b.p0 b.s0))]) (p_cons (p_i0 (p_ixT (ds := [vcd a.p0 (plusM a.p0 a.s0), vcd a.p1 (plusM a.p1 a.s1)]) (i := 0) (e_var rfl) (e_var rfl) rfl)) (p_cons (p_i1 (p_ixT (ds := [vcd b.p0 (plusM b.p0 b.s0), vcd b.p1 (plusM b.p1 b.s1)]) (i := 0) (e_var rfl) (e_var rfl) rfl)) a_nil)) ⟨_, _, rfl, ha.p0.mono (by decide), hb.h0, rfl⟩) (by walk_at "ev")⟩
    | 1, hx, hp =>
      obtain rfl := Option.some.inj hx
      obtain rfl := Option.some.inj hp
      exact ⟨_, w_name List.mem_cons_self, t_yes, fun _ => e_andV (p_lt (p_call (R := RCmp) (ds := [.d (fr b.p1), .d (fr (plusM a.p1 a.s1))]) (p_cons (p_i0 (p_ixT (ds := [vcd b.p0 (plusM b.p0 b.s0), vcd b.p1 (plusM b.p1 b.s1)]) (i := 1) (e_var rfl) (e_var rfl) rfl)) (p_cons (p_i1 (p_ixT (ds := [vcd a.p0 (plusM a.p0 a.s0), vcd a.p1 (plusM a.p1 a.s1)]) (i := 1) (e_var rfl) (e_var rfl) rfl)) a_nil)) ⟨_, _, rfl, hb.p1.mono (by decide), ha.h1, rfl⟩) (by walk_at "ev")) fun _ => p_lt (p_call (R := RCmp) (ds := [.d (fr a.p1), .d (fr (plusM b.p1 b.s1))]) (p_cons (p_i0 (p_ixT (ds := [vcd a.p0 (plusM a.p0 a.s0), vcd a.p1 (plusM a.p1 a.s1)]) (i := 1) (e_var rfl) (e_var rfl) rfl)) (p_cons (p_i1 (p_ixT (ds := [vcd b.p0 (plusM b.p0 b.s0), vcd b.p1 (plusM b.p1 b.s1)]) (i := 1) (e_var rfl) (e_var rfl) rfl)) a_nil)) ⟨_, _, rfl, ha.p1.mono (by decide), hb.h1, rfl⟩) (by walk_at "ev")⟩
    | n + 2, hx, hp => simp at hx
  · rw [gen_two]
    rfl
theorem fok_check_bodies (Tp : Top K mg base) : FnOk P w K mg base (L2.CX P w) 3 Tp.f_check_bodies Tp.d_check_bodies ["bodies"] (spX K (RBods Tp.c_BodyError)) := by
  have G_is_body_sound := fok_is_body_sound (P := P) (w := w) (base := base) Tp
  refine Tp.F_check_bodies.okX sc_check_bodies (fun vs H Q E h => len_X (fun _ _ ⟨_, e, _⟩ => by rw [e]; rfl) h) (fun cdv A outer s H vs Q E hr h => ?_)
  refine ⟨_, (pss_cons (ps_set (i := 1) sc_check_bodies.nd rfl (.inl rfl) (pe_un un_neg pe_int))
      (pss_one (ps_for (passes_of rfl) rfl (pi_tup (pv 0)) (pg_name (i := 2) sc_check_bodies.nd rfl (.inl rfl)) (pss_cons (ps_set (i := 3) sc_check_bodies.nd rfl (.inl rfl) (pe_ix (r := rIxT K) ix_tup (pv 2) pe_int (fun _ _ => rfl)))
      (pss_cons (ps_if (PW.pt (pw_or (pt_cmpR op_gt (pv 3) (pe_glob (v := .int 999999999) (by rfl) Tp.gk_NAME_LIMIT ⟨_, rfl⟩) (nomark _)) (pw_or (pt_cmpR op_le (pv 3) (pv 1) (nomark _)) (pw_or1 (pt_not (pt_val (pe_call G_is_body_sound (hr.mono (by decide)) (by rfl) Tp.g_is_body_sound Tp.F_is_body_sound.kp Tp.b_is_body_sound .nil pass0 (pa_cons (pv 2) pa_nil)))))))) (pss_one (ps_raise rfl (takes_of rfl rfl rfl rfl) (pmk_own PySem.F.excBase_ValueError Tp.xc_BodyError Tp.gc_BodyError Tp.kc_BodyError (raises_own Tp.bc_BodyError Tp.tc_BodyError) rfl))) pss_nil)
      (pss_one (ps_set (i := 1) sc_check_bodies.nd rfl (.inl rfl) (pv 3)))))))), body_XN ?_ h⟩
  refine fun ds r hr I hx => ?_
  obtain ⟨bs, rfl, hbs, hr⟩ := hr
  walk_at "norm"
  rcases hr with ⟨h0, rfl⟩ | ⟨h0, rfl⟩
  · refine .inl ⟨rfl, [some (.t (bs.map bdD)), none, none, none], q_asg (d := .i (-1)) (by walk_at "ev") ?_⟩
    refine s_loopR1 (α := Int) (fun i rest bf => badB bf rest = false ∧ ∀ z ∈ rest, BdOk z) (fun bf => [some (.t (bs.map bdD)), some (.i bf), none, none]) (fun _ => I) (-1) ⟨h0, hbs⟩ (iw_t (e_var rfl)) (by rw [List.length_map]) (fun i z h => at0_map h) rfl (fun i z rest bf hw => ?_) (fun bf i hw => s_lessN (ρ' := [some (.t (bs.map bdD)), some (.i bf), none, none]) ⟨.inr rfl, .inl rfl, .inr rfl, .inr rfl, trivial⟩ s_next)
    obtain ⟨h1, h2⟩ := hw
    have hz := h2 z List.mem_cons_self
    have h1 : (bad1 bf z || badB z.nm rest) = false := h1
    rw [Bool.or_eq_false_iff] at h1
    refine ⟨_, g_name, .inl ⟨z.nm, ⟨h1.2, fun y hy => h2 y (List.mem_cons_of_mem _ hy)⟩, ?_⟩⟩
    refine s_lessN (ρ' := [some (.t (bs.map bdD)), some (.i z.nm), some (.d (bdD z)), some (.i z.nm)]) ⟨.inr rfl, .inr rfl, .inl rfl, .inl rfl, trivial⟩ ?_
    refine q_asg (d := .i z.nm) (p_i0 (e_var rfl)) ?_
    refine q_skip (t_or (p_test (p_gt (i := z.nm) (j := 999999999) (by walk_at "ev") e_int)) fun _ => t_or (p_test (p_le (i := z.nm) (j := bf) (by walk_at "ev") (by walk_at "ev"))) fun _ => t_not (t_B (p_call (R := RSound) (ds := [.d (bdD z)]) (by walk_at "ev") ⟨_, rfl, hz, rfl⟩))) h1.1 (p_asg (by walk_at "ev"))
  · refine .inr ⟨_, rfl, fun k => s_any (q_asg (d := .i (-1)) (by walk_at "ev") ?_)⟩
    refine s_loopR1 (α := Int) (fun i rest bf => badB bf rest = true ∧ ∀ z ∈ rest, BdOk z) (fun bf => [some (.t (bs.map bdD)), some (.i bf), none, none]) (fun _ => I) (-1) ⟨h0, hbs⟩ (iw_t (e_var rfl)) (by rw [List.length_map]) (fun i z h => at0_map h) rfl (fun i z rest bf hw => ?_) (fun bf i hw => (by cases hw.1))
    obtain ⟨h1, h2⟩ := hw
    have hz := h2 z List.mem_cons_self
    have h1 : (bad1 bf z || badB z.nm rest) = true := h1
    by_cases c : bad1 bf z = true
    · refine ⟨_, g_name, .inr ⟨ret_fin, q_asg (d := .i z.nm) (p_i0 (e_var rfl)) ?_⟩⟩
      exact s_stopR ret_fin (q_ifT (t_or (p_test (p_gt (i := z.nm) (j := 999999999) (by walk_at "ev") e_int)) fun _ => t_or (p_test (p_le (i := z.nm) (j := bf) (by walk_at "ev") (by walk_at "ev"))) fun _ => t_not (t_B (p_call (R := RSound) (ds := [.d (bdD z)]) (by walk_at "ev") ⟨_, rfl, hz, rfl⟩))) c (s_raise' fun G H σ D gh io => hx _ rfl G H io))
    · have c := Bool.eq_false_iff.mpr c
      rw [c, Bool.false_or] at h1
      refine ⟨_, g_name, .inl ⟨z.nm, ⟨h1, fun y hy => h2 y (List.mem_cons_of_mem _ hy)⟩, ?_⟩⟩
      refine s_lessN (ρ' := [some (.t (bs.map bdD)), some (.i z.nm), some (.d (bdD z)), some (.i z.nm)]) ⟨.inr rfl, .inr rfl, .inl rfl, .inl rfl, trivial⟩ ?_
      refine q_asg (d := .i z.nm) (p_i0 (e_var rfl)) ?_
      refine q_skip (t_or (p_test (p_gt (i := z.nm) (j := 999999999) (by walk_at "ev") e_int)) fun _ => t_or (p_test (p_le (i := z.nm) (j := bf) (by walk_at "ev") (by walk_at "ev"))) fun _ => t_not (t_B (p_call (R := RSound) (ds := [.d (bdD z)]) (by walk_at "ev") ⟨_, rfl, hz, rfl⟩))) c (p_asg (by walk_at "ev"))
theorem fok_joint_way (Tp : Top K mg base) : FnOk P w K mg base CX0 3 Tp.f_joint_way Tp.d_joint_way ["places", "joint"] (spP K RWay) := by
  have G_minus := fok_minus (P := P) (w := w) (base := base) Tp
  refine Tp.F_joint_way.ok sc_joint_way (fun vs H Q E h => len_P (fun _ _ ⟨_, _, _, _, e, _⟩ => by rw [e]; rfl) h) (fun cdv A outer s H vs Q E hr h => ?_)
  refine ⟨_, (pss_cons (ps_asg (pv 1) (pg_tup rfl (pgs_cons (pg_name (i := 2) sc_joint_way.nd rfl (.inl rfl)) (pgs_cons (pg_name (i := 3) sc_joint_way.nd rfl (.inl rfl)) (pgs_cons (pg_name (i := 4) sc_joint_way.nd rfl (.inl rfl)) (pgs_cons (pg_name (i := 5) sc_joint_way.nd rfl (.inl rfl)) (pgs_cons (pg_name (i := 5) sc_joint_way.nd rfl (.inl rfl)) pgs_nil)))))))
      (pss_one (ps_ret (pe_call G_minus (hr.mono (by decide)) (by rfl) Tp.g_minus Tp.F_minus.kp Tp.b_minus .nil pass0 (pa_cons (pe_ix (r := rIxT K) ix_tup (pe_dget (hu_of hr) (pv 0) (pv 3) (fun _ _ => rfl)) (pv 4) (fun _ _ => rfl)) (pa_cons (pe_ix (r := rIxT K) ix_tup (pe_dget (hu_of hr) (pv 0) (pv 2) (fun _ _ => rfl)) (pv 4) (fun _ _ => rfl)) pa_nil)))))), body_P ?_ h⟩
  refine fun ds d r I => ?_
  obtain ⟨bs, ⟨a, b, k, lo, hi⟩, x, y, rfl, fa, fb, hk, hx, hy, rfl⟩ := r
  walk_at "norm"
  refine s_seq (s_asgG (e_var rfl) (g_tup rfl (g_cons g_name (g_cons g_name (g_cons g_name (g_cons g_name (g_cons g_name g_nil))))))) ?_
  have hk : k = 0 ∨ k = 1 := hk
  rcases hk with rfl | rfl
  · exact p_ret (p_call (R := RPlus minusM) (ds := [.d (fr y.bx.p0), .d (fr x.bx.p0)]) (p_cons (p_ixT (ds := [fr y.bx.p0, fr y.bx.p1]) (i := 0) (e_kGet (x := vcd y.bx.p0 y.bx.p1) (e_var rfl) (e_var rfl) (by rw [plc_get, fb]; rfl)) (e_var rfl) rfl) (p_cons (p_ixT (ds := [fr x.bx.p0, fr x.bx.p1]) (i := 0) (e_kGet (x := vcd x.bx.p0 x.bx.p1) (e_var rfl) (e_var rfl) (by rw [plc_get, fa]; rfl)) (e_var rfl) rfl) a_nil)) (RPlus.mk hy.bx.p0 hx.bx.p0))
  · exact p_ret (p_call (R := RPlus minusM) (ds := [.d (fr y.bx.p1), .d (fr x.bx.p1)]) (p_cons (p_ixT (ds := [fr y.bx.p0, fr y.bx.p1]) (i := 1) (e_kGet (x := vcd y.bx.p0 y.bx.p1) (e_var rfl) (e_var rfl) (by rw [plc_get, fb]; rfl)) (e_var rfl) rfl) (p_cons (p_ixT (ds := [fr x.bx.p0, fr x.bx.p1]) (i := 1) (e_kGet (x := vcd x.bx.p0 x.bx.p1) (e_var rfl) (e_var rfl) (by rw [plc_get, fa]; rfl)) (e_var rfl) rfl) a_nil)) (RPlus.mk hy.bx.p1 hx.bx.p1))
theorem fok_bounds_of (Tp : Top K mg base) : FnOk P w K mg base CX0 3 Tp.f_bounds_of Tp.d_bounds_of ["state", "axis"] (spP K RBounds) := by
  have G_minus := fok_minus (P := P) (w := w) (base := base) Tp
  have G_is_moving := fok_is_moving (P := P) (w := w) (base := base) Tp
  refine Tp.F_bounds_of.ok sc_bounds_of (fun vs H Q E h => len_P (fun _ _ ⟨_, _, e, _⟩ => by rw [e]; rfl) h) (fun cdv A outer s H vs Q E hr h => ?_)
  refine ⟨_, (pss_cons (ps_asg (pv 0) (pg_tup rfl (pgs_cons (pg_name (i := 2) sc_bounds_of.nd rfl (.inl rfl)) (pgs_cons (pg_name (i := 3) sc_bounds_of.nd rfl (.inl rfl)) (pgs_cons (pg_name (i := 4) sc_bounds_of.nd rfl (.inl rfl)) pgs_nil)))))
      (pss_cons (ps_set (i := 5) sc_bounds_of.nd rfl (.inl rfl) (pe_lst pa_nil))
      (pss_cons (ps_for PassesOwn.never rfl (pi_tup (pv 3)) (pg_tup rfl (pgs_cons (pg_name (i := 6) sc_bounds_of.nd rfl (.inl rfl)) (pgs_cons (pg_name (i := 7) sc_bounds_of.nd rfl (.inl rfl)) (pgs_cons (pg_name (i := 8) sc_bounds_of.nd rfl (.inl rfl)) (pgs_cons (pg_name (i := 9) sc_bounds_of.nd rfl (.inl rfl)) (pgs_cons (pg_name (i := 10) sc_bounds_of.nd rfl (.inl rfl)) pgs_nil)))))) (pss_one (ps_if (pt_cmpR op_eq (pv 8) (pv 1) (nomark _)) (pss_one (ps_expr (pe_bm PySem.F.plainAttrs_list PySem.F.slot_list_extend PySem.F.type_list_extend mt_extend (pv 5) (pa_cons (pe_lst (pa_cons (pe_tup (pa_cons (pv 6) (pa_cons (pv 7) (pa_cons (pv 10) pa_nil)))) (pa_cons (pe_tup (pa_cons (pv 7) (pa_cons (pv 6) (pa_cons (pe_call G_minus (hr.mono (by decide)) (by rfl) Tp.g_minus Tp.F_minus.kp Tp.b_minus .nil pass0 (pa_cons (pe_glob (v := .ref Tp.k_ZERO) (by rfl) Tp.gk_ZERO rfl) (pa_cons (pv 9) pa_nil))) pa_nil)))) pa_nil))) pa_nil)))) pss_nil)))
      (pss_cons (ps_setLc (i := 11) (own := [("body", 13)]) (g := gName 13) rfl sc_bounds_of.nd rfl rfl (sw_true rfl rfl rfl rfl) (pi_tup (pv 2)) (blkOk_by (N := ["state", "axis", "bodies", "joints", "_", "bounds", "one", "other", "own_axis", "low", "high", "fixed", "way", "body"]) (sc := defScope s_bounds_of) (by decide +kernel)) (fun _ _ _ _ _ => pg_name (i := 13) sc_bounds_of.nd rfl (Or.inl rfl)) (fun _ _ _ _ _ => (pts_one (pt_not (pt_val (pe_call G_is_moving (hr.mono (by decide)) (by rfl) Tp.g_is_moving Tp.F_is_moving.kp Tp.b_is_moving .nil pass0 (pa_cons (pv 13) pa_nil)))))) (fun _ _ _ _ _ => (pv 13)))
      (pss_cons (ps_for PassesOwn.never rfl (RZ.pi_zipA (by rfl) Tp.n_zip (pa_cons (pv 11) (pa_cons (pe_slice (r := rSlL K) sl_list (pv 11) (po_some pe_int) po_none) pa_nil))) (pg_tup rfl (pgs_cons (pg_name (i := 6) sc_bounds_of.nd rfl (.inl rfl)) (pgs_cons (pg_name (i := 7) sc_bounds_of.nd rfl (.inl rfl)) pgs_nil))) (pss_cons (ps_set (i := 12) sc_bounds_of.nd rfl (.inl rfl) (pe_call G_minus (hr.mono (by decide)) (by rfl) Tp.g_minus Tp.F_minus.kp Tp.b_minus .nil pass0 (pa_cons (pe_ix (r := rIxT K) ix_tup (pe_ix (r := rIxT K) ix_tup (pv 7) pe_int (fun _ _ => rfl)) (pv 1) (fun _ _ => rfl)) (pa_cons (pe_ix (r := rIxT K) ix_tup (pe_ix (r := rIxT K) ix_tup (pv 6) pe_int (fun _ _ => rfl)) (pv 1) (fun _ _ => rfl)) pa_nil))))
      (pss_one (ps_expr (pe_bm PySem.F.plainAttrs_list PySem.F.slot_list_extend PySem.F.type_list_extend mt_extend (pv 5) (pa_cons (pe_lst (pa_cons (pe_tup (pa_cons (pe_ix (r := rIxT K) ix_tup (pv 6) pe_int (fun _ _ => rfl)) (pa_cons (pe_ix (r := rIxT K) ix_tup (pv 7) pe_int (fun _ _ => rfl)) (pa_cons (pv 12) pa_nil)))) (pa_cons (pe_tup (pa_cons (pe_ix (r := rIxT K) ix_tup (pv 7) pe_int (fun _ _ => rfl)) (pa_cons (pe_ix (r := rIxT K) ix_tup (pv 6) pe_int (fun _ _ => rfl)) (pa_cons (pe_call G_minus (hr.mono (by decide)) (by rfl) Tp.g_minus Tp.F_minus.kp Tp.b_minus .nil pass0 (pa_cons (pe_glob (v := .ref Tp.k_ZERO) (by rfl) Tp.gk_ZERO rfl) (pa_cons (pv 12) pa_nil))) pa_nil)))) pa_nil))) pa_nil))))))
      (pss_one (ps_ret (pv 5)))))))), body_P ?_ h⟩
  refine fun ds d r I => ?_
  obtain ⟨st, k, rfl, hg, hk, rfl⟩ := r
  walk_at "norm"
  refine s_seq (s_asgG (e_var rfl) (g_tup rfl (g_cons g_name (g_cons g_name (g_cons g_name g_nil))))) ?_
  refine s_newL fun q hq => ?_
  have l1 := hg.len.1
  have l2 := hg.len.2
  refine s_loopR (α := List FEd) (bs := st.js) (f := fun _ j => jtD j) (fun i rest a => a ++ rest.flatMap (jE k) = st.js.flatMap (jE k) ∧ a.length + 2 * rest.length ≤ 48 ∧ ∀ z ∈ rest, JtN z) (fun _ => [some (.d (stD st)), some (.i k), some (.t (st.bs.map bdD)), some (.t (st.js.map jtD)), some (.d (vcd st.u0 st.u1)), some (.r q), none, none, none, none, none, none, none, none]) (fun a => lJ K q (a.map feD) I) [] ⟨rfl, by show 0 + 2 * st.js.length ≤ 48; omega, hg.js⟩ (iw_t (e_var rfl)) (by rw [List.length_map]) (fun i z h => at0_map h) rfl (fun i z rest a hw => ?_) fun a i hw => ?_
  · obtain ⟨h1, h2, h3⟩ := hw
    have hz := h3 z List.mem_cons_self
    refine ⟨_, g_tup rfl (g_cons g_name (g_cons g_name (g_cons g_name (g_cons g_name (g_cons g_name g_nil))))), .inl ⟨a ++ jE k z, ⟨by rw [List.append_assoc]; exact h1, ?_, fun y hy => h3 y (List.mem_cons_of_mem _ hy)⟩, ?_⟩⟩
    · have := jE_len k z
      rw [List.length_append]
      rw [List.length_cons] at h2
      omega
    refine s_lessN (ρ' := [some (.d (stD st)), some (.i k), some (.t (st.bs.map bdD)), some (.t (st.js.map jtD)), some (.d (vcd st.u0 st.u1)), some (.r q), some (.i z.a), some (.i z.b), some (.i z.k), some (.d (fr z.lo)), some (.d (fr z.hi)), none, none, none]) ⟨.inr rfl, .inr rfl, .inr rfl, .inr rfl, .inr rfl, .inr rfl, .inl rfl, .inl rfl, .inl rfl, .inl rfl, .inl rfl, .inr rfl, .inr rfl, .inr rfl, trivial⟩ ?_
    have T : ∀ I', T K (tTest (tOp rEq (tVar 8) (tVar 1))) [some (.d (stD st)), some (.i k), some (.t (st.bs.map bdD)), some (.t (st.js.map jtD)), some (.d (vcd st.u0 st.u1)), some (.r q), some (.i z.a), some (.i z.b), some (.i z.k), some (.d (fr z.lo)), some (.d (fr z.hi)), none, none, none] I' (decide (z.k = k)) I' := fun I' => p_test (p_eqI (i := z.k) (j := k) (e_var rfl) (e_var rfl))
    by_cases c : z.k = k
    · have e : jE k z = [(z.a, z.b, z.hi), (z.b, z.a, minusM (0, 1) z.lo)] := if_pos c
      refine q_ifT (T _) (decide_eq_true c) ?_
      refine s_is (s_ext (es := [feD (z.a, z.b, z.hi), feD (z.b, z.a, minusM (0, 1) z.lo)]) (e_lstL (a_cons (e_tup (a_cons (e_var rfl) (a_cons (e_var rfl) (a_cons (e_var rfl) a_nil))) (.cons (.cons (.cons .nil))) (show 3 ≤ 100000 by decide)) (a_cons (e_tup (a_cons (e_var rfl) (a_cons (e_var rfl) (a_cons (p_call (R := RPlus minusM) (ds := [.d (fr (0, 1)), .d (fr z.lo)]) (p_cons (e_glob (dp_const Tp.dk_ZERO fun G => .cons (.int 0) (.cons (.int 1) .nil))) (p_cons (e_var rfl) a_nil)) (RPlus.mk (m := 20) (ok_c0 (by decide)) hz.okl)) a_nil))) (.cons (.cons (.cons .nil))) (show 3 ≤ 100000 by decide)) a_nil)) (.cons (.cons .nil)) (by show 2 ≤ 100000; decide)) rfl (by rw [List.length_map]; rw [List.length_cons] at h2; show a.length + 2 ≤ 100000; omega) hq) ?_
      rw [e, List.map_append]
      rfl
    · have e : jE k z = [] := if_neg c
      refine q_ifF (T _) (decide_eq_false c) ?_
      rw [e, List.append_nil]
      exact s_next
  obtain ⟨h1, h2, _⟩ := hw
  rw [show ([] : List Jt).flatMap (jE k) = [] from rfl, List.append_nil] at h1
  have h2 : a.length ≤ 48 := by simpa using h2
  subst h1
  have eR := row_get bd0 (fun b : Bd => !decide (0 < b.ms)) bdD st.bs
  refine q_asg (d := .d (.list ((fixM st).map bdD))) (e_is (e_lcTW (b := fun j => !decide (0 < (st.bs.getD j bd0).ms)) (e := fun j => bdD (st.bs.getD j bd0)) (iw_t (e_var rfl)) (by rw [List.length_map]; omega) (fun i hi => ?_)) (by rw [List.length_map, eR]; rfl)) ?_
  · rw [List.length_map] at hi
    have hz : st.bs[i]? = some (st.bs.getD i bd0) := by rw [List.getD_eq_getElem?_getD, List.getElem?_eq_getElem hi]; rfl
    rw [at0_map hz]
    exact ⟨_, w_name (by decide), fun I' => t_not (t_B (p_call (R := RMoving) (ds := [.d (bdD (st.bs.getD i bd0))]) (by walk_at "ev") ⟨_, rfl, rfl⟩)), fun _ I' => e_var rfl⟩
  have lf : (fixM st).length ≤ st.bs.length := List.length_filter_le _ _
  have hf : ∀ b ∈ fixM st, BdM 400 b := fun b hb => hg.bs b (List.mem_filter.mp hb).1
  generalize ef : fixM st = fs at lf hf ⊢
  refine s_loop (α := List FEd) (fun i a2 => a2 = st.js.flatMap (jE k) ++ (chF k fs).take (2 * i)) (fun _ => [some (.d (stD st)), some (.i k), some (.t (st.bs.map bdD)), some (.t (st.js.map jtD)), some (.d (vcd st.u0 st.u1)), some (.r q), none, none, none, none, none, some (.d (.list (fs.map bdD))), none, none]) (fun a2 => lJ K q (a2.map feD) I) (st.js.flatMap (jE k)) (by simp) (iw_zls (ys := (fs.map bdD).drop 1) (p_cons (e_var rfl) (p_cons (e_l2d (e_sliceFrom (j := 1) (e_var rfl) e_int)) a_nil)) (by rw [List.length_drop]; omega)) rfl (fun i a2 hi hw => ?_) fun a2 hw => ?_
  · rw [List.length_drop, List.length_map] at hi
    subst hw
    obtain ⟨x, hx⟩ : ∃ x, fs[i]? = some x := ⟨fs[i]'(by omega), List.getElem?_eq_getElem (by omega)⟩
    obtain ⟨y, hy⟩ : ∃ y, fs[i + 1]? = some y := ⟨fs[i + 1]'(by omega), List.getElem?_eq_getElem (by omega)⟩
    have okx := (hf x (List.mem_of_getElem? hx)).bx
    have oky := (hf y (List.mem_of_getElem? hy)).bx
    have e1 : at0 (fs.map bdD) i = bdD x := at0_map hx
    have e2 : at0 ((fs.map bdD).drop 1) i = bdD y := by
      unfold at0
      rw [List.getD_eq_getElem?_getD, List.getElem?_drop, Nat.add_comm, List.getElem?_map, hy]
      rfl
    have e3 : (chF k fs).take (2 * (i + 1)) = (chF k fs).take (2 * i) ++ [(x.nm, y.nm, minusM (posK y k) (posK x k)), (y.nm, x.nm, minusM (0, 1) (minusM (posK y k) (posK x k)))] := chF_take hx hy
    have lc : ((chF k fs).take (2 * i)).length ≤ 48 := by
      rw [List.length_take]
      omega
    rw [e1, e2]
    refine ⟨_, g_tup rfl (g_cons g_name (g_cons g_name g_nil)), .inl ⟨_, by rw [e3, ← List.append_assoc], ?_⟩⟩
    have okw := (okp hk oky).minus (okp hk okx)
    refine s_lessN (ρ' := [some (.d (stD st)), some (.i k), some (.t (st.bs.map bdD)), some (.t (st.js.map jtD)), some (.d (vcd st.u0 st.u1)), some (.r q), some (.d (bdD x)), some (.d (bdD y)), none, none, none, some (.d (.list (fs.map bdD))), some (.d (fr (minusM (posK y k) (posK x k)))), none]) ⟨.inr rfl, .inr rfl, .inr rfl, .inr rfl, .inr rfl, .inr rfl, .inl rfl, .inl rfl, .inr rfl, .inr rfl, .inr rfl, .inr rfl, .inl rfl, .inr rfl, trivial⟩ ?_
    refine q_asg (d := .d (fr (minusM (posK y k) (posK x k)))) (p_call (R := RPlus minusM) (ds := [.d (fr (posK y k)), .d (fr (posK x k))]) (p_cons (p_ixT (ds := [fr y.bx.p0, fr y.bx.p1]) (i := k) (p_i1 (e_var rfl)) (e_var rfl) (pos_at hk)) (p_cons (p_ixT (ds := [fr x.bx.p0, fr x.bx.p1]) (i := k) (p_i1 (e_var rfl)) (e_var rfl) (pos_at hk)) a_nil)) (RPlus.mk ((okp hk oky).ok (k := 20) (by decide) (by decide) (by decide)) ((okp hk okx).ok (k := 20) (by decide) (by decide) (by decide)))) ?_
    refine s_is (s_ext (es := [feD (x.nm, y.nm, minusM (posK y k) (posK x k)), feD (y.nm, x.nm, minusM (0, 1) (minusM (posK y k) (posK x k)))]) (e_lstL (a_cons (e_tup (a_cons (p_i0 (e_var rfl)) (a_cons (p_i0 (e_var rfl)) (a_cons (e_var rfl) a_nil))) (.cons (.cons (.cons .nil))) (show 3 ≤ 100000 by decide)) (a_cons (e_tup (a_cons (p_i0 (e_var rfl)) (a_cons (p_i0 (e_var rfl)) (a_cons (p_call (R := RPlus minusM) (ds := [.d (fr (0, 1)), .d (fr (minusM (posK y k) (posK x k)))]) (p_cons (e_glob (dp_const Tp.dk_ZERO fun G => .cons (.int 0) (.cons (.int 1) .nil))) (p_cons (e_var rfl) a_nil)) (RPlus.mk (m := 20) (ok_c0 (by decide)) (okw.ok (k := 20) (by decide) (by decide) (by decide)))) a_nil))) (.cons (.cons (.cons .nil))) (show 3 ≤ 100000 by decide)) a_nil)) (.cons (.cons .nil)) (by show 2 ≤ 100000; decide)) rfl (by rw [List.length_map, List.length_append]; show _ + _ + 2 ≤ 100000; omega) hq) ?_
    rw [List.map_append (l₁ := st.js.flatMap (jE k) ++ (chF k fs).take (2 * i))]
    rfl
  · rw [List.length_drop, List.length_map] at hw
    have e : a2 = st.js.flatMap (jE k) ++ chF k fs := by
      rw [hw, List.take_of_length_le (by rw [chF_len]; omega)]
    rw [e, show st.js.flatMap (jE k) ++ chF k fs = bndM st k by unfold bndM; rw [ef]]
    refine s_freeze (i := 5) rfl hq ?_
    exact p_ret (e_var rfl)
theorem fok_law_plus (Tp : Top K mg base) : FnOk P w K mg base CX0 3 Tp.f_law_plus Tp.d_law_plus ["a", "b"] (spP K (RPlus lplus)) := by
  have G_law_f := fok_law_f (P := P) (w := w) (base := base) Tp
  refine Tp.F_law_plus.ok sc_law_plus (fun vs H Q E h => len_P (fun _ _ z => z.len) h) (fun cdv A outer s H vs Q E hr h => ?_)
  refine ⟨_, (pss_one (ps_ret (pe_call G_law_f (hr.mono (by decide)) (by rfl) Tp.g_law_f Tp.F_law_f.kp Tp.b_law_f .nil pass0 (pa_cons (pe_op op_add (pe_op op_mulW (pe_ix (r := rIxT K) ix_tup (pv 0) pe_int (fun _ _ => rfl)) (pe_ix (r := rIxT K) ix_tup (pv 1) pe_int (fun _ _ => rfl))) (pe_op op_mulW (pe_ix (r := rIxT K) ix_tup (pv 1) pe_int (fun _ _ => rfl)) (pe_ix (r := rIxT K) ix_tup (pv 0) pe_int (fun _ _ => rfl)))) (pa_cons (pe_op op_mulW (pe_ix (r := rIxT K) ix_tup (pv 0) pe_int (fun _ _ => rfl)) (pe_ix (r := rIxT K) ix_tup (pv 1) pe_int (fun _ _ => rfl))) pa_nil))))), body_P ?_ h⟩
  refine fun ds d r I => ?_
  obtain ⟨a, b, rfl, ha, hb, rfl⟩ := r
  walk_at "norm"
  have pa := ha.nrm.1
  have pb := hb.nrm.1
  
  have na : a.2 ≠ 0 := by omega
  have nb : b.2 ≠ 0 := by omega
  have n2 : a.2 * b.2 ≠ 0 := Int.mul_ne_zero na nb
  refine p_ret (p_call (R := RF) (ds := [.i (a.1 * b.2 + b.1 * a.2), .i (a.2 * b.2)]) ?_ (RF.mk (m := 8001) (n := 8000) n2 (sz_add (m := 8000) (sz_mul ha.sz.1 hb.sz.2) (sz_mul hb.sz.1 ha.sz.2)) (sz_mul ha.sz.2 hb.sz.2) (by decide) (by decide)))
  walk_at "ev"
  all_goals first | exact mulW ha.sz.1 hb.sz.1 (by decide) | exact mulW ha.sz.1 hb.sz.2 (by decide) | exact mulW hb.sz.1 ha.sz.2 (by decide) | exact mulW ha.sz.2 hb.sz.2 (by decide)
theorem fok_law_minus (Tp : Top K mg base) : FnOk P w K mg base CX0 3 Tp.f_law_minus Tp.d_law_minus ["a", "b"] (spP K (RPlus lminus)) := by
  have G_law_f := fok_law_f (P := P) (w := w) (base := base) Tp
  refine Tp.F_law_minus.ok sc_law_minus (fun vs H Q E h => len_P (fun _ _ z => z.len) h) (fun cdv A outer s H vs Q E hr h => ?_)
  refine ⟨_, (pss_one (ps_ret (pe_call G_law_f (hr.mono (by decide)) (by rfl) Tp.g_law_f Tp.F_law_f.kp Tp.b_law_f .nil pass0 (pa_cons (pe_op op_sub (pe_op op_mulW (pe_ix (r := rIxT K) ix_tup (pv 0) pe_int (fun _ _ => rfl)) (pe_ix (r := rIxT K) ix_tup (pv 1) pe_int (fun _ _ => rfl))) (pe_op op_mulW (pe_ix (r := rIxT K) ix_tup (pv 1) pe_int (fun _ _ => rfl)) (pe_ix (r := rIxT K) ix_tup (pv 0) pe_int (fun _ _ => rfl)))) (pa_cons (pe_op op_mulW (pe_ix (r := rIxT K) ix_tup (pv 0) pe_int (fun _ _ => rfl)) (pe_ix (r := rIxT K) ix_tup (pv 1) pe_int (fun _ _ => rfl))) pa_nil))))), body_P ?_ h⟩
  refine fun ds d r I => ?_
  obtain ⟨a, b, rfl, ha, hb, rfl⟩ := r
  walk_at "norm"
  have pa := ha.nrm.1
  have pb := hb.nrm.1
  
  have na : a.2 ≠ 0 := by omega
  have nb : b.2 ≠ 0 := by omega
  have n2 : a.2 * b.2 ≠ 0 := Int.mul_ne_zero na nb
  refine p_ret (p_call (R := RF) (ds := [.i (a.1 * b.2 - b.1 * a.2), .i (a.2 * b.2)]) ?_ (RF.mk (m := 8001) (n := 8000) n2 (sz_sub (m := 8000) (sz_mul ha.sz.1 hb.sz.2) (sz_mul hb.sz.1 ha.sz.2)) (sz_mul ha.sz.2 hb.sz.2) (by decide) (by decide)))
  walk_at "ev"
  all_goals first | exact mulW ha.sz.1 hb.sz.1 (by decide) | exact mulW ha.sz.1 hb.sz.2 (by decide) | exact mulW hb.sz.1 ha.sz.2 (by decide) | exact mulW ha.sz.2 hb.sz.2 (by decide)
theorem fok_law_part (Tp : Top K mg base) : FnOk P w K mg base CX0 3 Tp.f_law_part Tp.d_law_part ["d", "most"] (spW K RPart) := by
  have G_law_f := fok_law_f (P := P) (w := w) (base := base) Tp
  have G_law_signed := fok_law_signed (P := P) (w := w) (base := base) Tp
  have G_law_take := fok_law_take (P := P) (w := w) (base := base) Tp
  refine Tp.F_law_part.ok sc_law_part (fun vs H Q E h => len_W (fun _ _ _ _ ⟨_, e, _⟩ => by rw [e]; rfl) h) (fun cdv A outer s H vs Q E hr h => ?_)
  refine ⟨_, (pss_one (ps_ret (pe_call G_law_f (hr.mono (by decide)) (by rfl) Tp.g_law_f Tp.F_law_f.kp Tp.b_law_f .nil pass0 (pa_cons (pe_call G_law_signed (hr.mono (by decide)) (by rfl) Tp.g_law_signed Tp.F_law_signed.kp Tp.b_law_signed .nil pass0 (pa_cons (pv 0) (pa_cons (pe_op op_mulW (pv 1) pe_int) pa_nil))) (pa_cons (pe_op op_add pe_int (pe_call G_law_take (hr.mono (by decide)) (by rfl) Tp.g_law_take Tp.F_law_take.kp Tp.b_law_take .nil pass0 (pa_cons (pv 0) (pa_cons pe_int pa_nil)))) pa_nil))))), body_W ?_ h⟩
  refine fun ds C d C' r p J hf => ?_
  obtain ⟨m, rfl, ok, hm, hz, rfl, rfl⟩ := r
  walk_at "norm"
  have z2 : (m * 2).natAbs < 2 ^ 7002 := sz_mul (n := 2) hz (by decide)
  obtain ⟨o1, b1, b2⟩ := take_ok (C := C) (m := 2 * (m * 2) + 1) ok (by omega)
  obtain ⟨o2, b3, b4⟩ := take_ok (C := (take C (2 * (m * 2) + 1)).2) (m := 3) o1 (by omega)
  refine s_ret (e_call (R := RF) (a_cons (e_draw (R := RSigned) (ds := [.i (m * 2)]) (C := C) (p_cons (e_var rfl) (p_cons (p_mul (e_var rfl) e_int (mulW (m := 7000) (n := 2) hz (by decide) (by decide))) a_nil)) ⟨_, rfl, ok, by omega, sz_le z2 (by decide), rfl, rfl⟩ hf)
    (a_cons (e_add e_int (e_draw (R := RTake) (ds := [.i 3]) (p_cons (e_var rfl) (p_cons e_int a_nil)) ⟨_, rfl, o1, by decide, Nat.lt_of_lt_of_le (show (3 : Int).natAbs < 2 ^ 2 by decide) (Nat.pow_le_pow_right (by decide) (by decide)), rfl, rfl⟩ hf)) a_nil)) ?_)
  refine RF.mk (m := 7010) (n := 7010) (by omega) ?_ ?_ (by decide) (by decide)
  · have : (2 : Nat) ^ 7010 = 2 ^ 7002 * 256 := by decide +kernel
    omega
  · refine Nat.lt_of_lt_of_le (show _ < 2 ^ 3 by omega) (Nat.pow_le_pow_right (by decide) (by decide))
theorem fok_law_size (Tp : Top K mg base) : FnOk P w K mg base CX0 3 Tp.f_law_size Tp.d_law_size ["d"] (spW K RSize) := by
  have G_law_f := fok_law_f (P := P) (w := w) (base := base) Tp
  have G_law_take := fok_law_take (P := P) (w := w) (base := base) Tp
  refine Tp.F_law_size.ok sc_law_size (fun vs H Q E h => len_W (fun _ _ _ _ z => by obtain ⟨e, _⟩ := z; rw [e]; rfl) h) (fun cdv A outer s H vs Q E hr h => ?_)
  refine ⟨_, (pss_one (ps_ret (pe_tup (pa_cons (pe_call G_law_f (hr.mono (by decide)) (by rfl) Tp.g_law_f Tp.F_law_f.kp Tp.b_law_f .nil pass0 (pa_cons (pe_op op_add pe_int (pe_call G_law_take (hr.mono (by decide)) (by rfl) Tp.g_law_take Tp.F_law_take.kp Tp.b_law_take .nil pass0 (pa_cons (pv 0) (pa_cons pe_int pa_nil)))) (pa_cons (pe_op op_add pe_int (pe_call G_law_take (hr.mono (by decide)) (by rfl) Tp.g_law_take Tp.F_law_take.kp Tp.b_law_take .nil pass0 (pa_cons (pv 0) (pa_cons pe_int pa_nil)))) pa_nil))) (pa_cons (pe_call G_law_f (hr.mono (by decide)) (by rfl) Tp.g_law_f Tp.F_law_f.kp Tp.b_law_f .nil pass0 (pa_cons (pe_op op_add pe_int (pe_call G_law_take (hr.mono (by decide)) (by rfl) Tp.g_law_take Tp.F_law_take.kp Tp.b_law_take .nil pass0 (pa_cons (pv 0) (pa_cons pe_int pa_nil)))) (pa_cons (pe_op op_add pe_int (pe_call G_law_take (hr.mono (by decide)) (by rfl) Tp.g_law_take Tp.F_law_take.kp Tp.b_law_take .nil pass0 (pa_cons (pv 0) (pa_cons pe_int pa_nil)))) pa_nil))) pa_nil))))), body_W ?_ h⟩
  refine fun ds C d C' r p J hf => ?_
  obtain ⟨rfl, ok, rfl, rfl⟩ := r
  walk_at "norm"
  obtain ⟨o1, a1, a2⟩ := take_ok (C := C) (m := 6) ok (by decide)
  obtain ⟨o2, b1, b2⟩ := take_ok (C := (take C 6).2) (m := 2) o1 (by decide)
  obtain ⟨o3, c1, c2⟩ := take_ok (C := (take (take C 6).2 2).2) (m := 6) o2 (by decide)
  obtain ⟨o4, e1, e2⟩ := take_ok (C := (take (take (take C 6).2 2).2 6).2) (m := 2) o3 (by decide)
  have z6 : (6 : Int).natAbs < 2 ^ 8500 := sz_le (m := 3) (by decide) (by decide)
  have z2 : (2 : Int).natAbs < 2 ^ 8500 := sz_le (m := 3) (by decide) (by decide)
  exact s_ret (e_tup (a_cons (e_call (R := RF) (a_cons (e_add e_int (e_draw (R := RTake) (ds := [.i 6]) (C := C) (by walk_at "ev") ⟨_, rfl, ok, by decide, z6, rfl, rfl⟩ hf)) (a_cons (e_add e_int (e_draw (R := RTake) (ds := [.i 2]) (by walk_at "ev") ⟨_, rfl, o1, by decide, z2, rfl, rfl⟩ hf)) a_nil)) (RF.mk (m := 10) (n := 10) (by omega) (by omega) (by omega) (by decide) (by decide)))
    (a_cons (e_call (R := RF) (a_cons (e_add e_int (e_draw (R := RTake) (ds := [.i 6]) (by walk_at "ev") ⟨_, rfl, o2, by decide, z6, rfl, rfl⟩ hf)) (a_cons (e_add e_int (e_draw (R := RTake) (ds := [.i 2]) (by walk_at "ev") ⟨_, rfl, o3, by decide, z2, rfl, rfl⟩ hf)) a_nil)) (RF.mk (m := 10) (n := 10) (by omega) (by omega) (by omega) (by decide) (by decide))) a_nil)) (.cons (.cons .nil)) (show 2 ≤ 100000 by decide))
theorem fok_check_overlaps (Tp : Top K mg base) : FnOk P w K mg base (L2.CX P w) 4 Tp.f_check_overlaps Tp.d_check_overlaps ["bodies"] (spXT K Tp.tabs (ROvl Tp.c_OverlapError)) := by
  have G_ends_of := fok_ends_of (P := P) (w := w) (base := base) Tp
  have G_box_of_body := fok_box_of_body (P := P) (w := w) (base := base) Tp
  have G_ends_overlap := fok_ends_overlap (P := P) (w := w) (base := base) Tp
  refine Tp.F_check_overlaps.okX sc_check_overlaps (fun vs H Q E h => len_X (fun _ _ ⟨_, e, _⟩ => by rw [e]; rfl) h) (fun cdv A outer s H vs Q E hr h => ?_)
  refine ⟨_, (pss_cons (ps_setLc (i := 1) (own := [("body", 5)]) (g := gName 5) (tt := tYes) rfl sc_check_overlaps.nd rfl rfl (sw_true rfl rfl rfl rfl) (pi_tup (pv 0)) (blkOk_by (N := ["bodies", "ends", "at", "one", "other", "body"]) (sc := defScope s_check_overlaps) (by decide +kernel)) (fun _ _ _ _ _ => pg_name (i := 5) sc_check_overlaps.nd rfl (Or.inl rfl)) (fun _ _ _ _ _ => pts_nil) (fun _ _ _ _ _ => (pe_call G_ends_of (hr.mono (by decide)) (by rfl) Tp.g_ends_of Tp.F_ends_of.kp Tp.b_ends_of .nil pass0 (pa_cons (pe_call G_box_of_body (hr.mono (by decide)) (by rfl) Tp.g_box_of_body Tp.F_box_of_body.kp Tp.b_box_of_body .nil pass0 (pa_cons (pv 5) pa_nil)) pa_nil))))
      (pss_one (ps_for (passes_of rfl) rfl (pi_enum (by rfl) Tp.n_enumerate (pa_cons (pv 1) pa_nil)) (pg_tup rfl (pgs_cons (pg_name (i := 2) sc_check_overlaps.nd rfl (.inl rfl)) (pgs_cons (pg_name (i := 3) sc_check_overlaps.nd rfl (.inl rfl)) pgs_nil))) (pss_one (ps_for (passes_of rfl) rfl (pi_list (pe_slice (r := rSlL K) sl_list (pv 1) (po_some (pe_op op_add (pv 2) pe_int)) po_none)) (pg_name (i := 4) sc_check_overlaps.nd rfl (.inl rfl)) (pss_one (ps_if (pt_val (pe_call G_ends_overlap (hr.mono (by decide)) (by rfl) Tp.g_ends_overlap Tp.F_ends_overlap.kp Tp.b_ends_overlap .nil pass0 (pa_cons (pv 3) (pa_cons (pv 4) pa_nil)))) (pss_one (ps_raise rfl (takes_of rfl rfl rfl rfl) (pmk_own PySem.F.excBase_ValueError Tp.xc_OverlapError Tp.gc_OverlapError Tp.kc_OverlapError (raises_own Tp.bc_OverlapError Tp.tc_OverlapError) rfl))) pss_nil))))))), body_XNT ?_ h⟩
  refine fun ds r hr I hT hx => ?_
  obtain ⟨bs, rfl, hbs, hlen, hr⟩ := hr
  walk_at "norm"
  rcases hr with ⟨h0, rfl⟩ | ⟨h0, rfl⟩
  · refine .inl ⟨rfl, [some (.t (bs.map bdD)), some (.d (.list (bs.map fun z => endD z.bx))), none, none, none, none], q_asg (d := .d (.list (bs.map fun z => endD z.bx))) (e_lcW (es := bs.map fun z => endD z.bx) (iw_t (e_var rfl)) (by rw [List.length_map, List.length_map]) (by rw [List.length_map]; exact hlen) fun i y hi hy => ?_) ?_⟩
    · skip
      obtain ⟨z, hz, rfl⟩ := getElem?_of_map hy
      have hzb := hbs z (List.mem_of_getElem? hz)
      rw [at0_map hz]
      exact ⟨_, w_name List.mem_cons_self, fun I' => p_call (R := REnds) (ds := [.d (bxd z.bx)]) (p_cons (p_call (R := RBoxOf) (ds := [.d (bdD z)]) (by walk_at "ev") ⟨z, rfl, rfl⟩) a_nil) ⟨z.bx, rfl, hzb.bx.p0.mono (by decide), hzb.bx.p1.mono (by decide), hzb.bx.s0.mono (by decide), hzb.bx.s1.mono (by decide), rfl⟩⟩
    refine s_loopR1 (α := Unit) (bs := bs) (f := fun i z => .tuple [.int (i : Nat), endD z.bx]) (fun i rest _ => ovB (rest.map (·.bx)) = false ∧ bs.drop i = rest ∧ ∀ z ∈ rest, BdOk z) (fun _ => [some (.t (bs.map bdD)), some (.d (.list (bs.map fun z => endD z.bx))), none, none, none, none]) (fun _ => I) () ⟨h0, rfl, hbs⟩ (iw_e (p_cons (e_var rfl) a_nil)) (by rw [List.length_map]) (fun i z h => by rw [at0_map h]) rfl (fun i z rest _ hw => ?_) (fun _ i hw => s_next)
    obtain ⟨h1, hr, h3⟩ := hw
    have hz := h3 z List.mem_cons_self
    have h1 : ((rest.map (·.bx)).any (pairM lt0 z.bx) || ovB (rest.map (·.bx))) = false := h1
    rw [Bool.or_eq_false_iff, List.any_map] at h1
    replace hr : bs.drop (i + 1) = rest := by rw [← List.tail_drop, hr]; rfl
    refine ⟨_, (g_tup rfl (g_cons g_name (g_cons g_name g_nil))), .inl ⟨(), ⟨h1.2, hr, fun y hy => h3 y (List.mem_cons_of_mem _ hy)⟩, ?_⟩⟩
    refine s_lessN (ρ' := [some (.t (bs.map bdD)), some (.d (.list (bs.map fun z => endD z.bx))), some (.i (i : Nat)), some (.d (endD z.bx)), none, none]) ⟨.inr rfl, .inr rfl, .inl rfl, .inl rfl, .inr rfl, .inr rfl, trivial⟩ ?_
    refine s_loopR1 (α := Unit) (bs := rest) (f := fun _ y => endD y.bx) (fun _ r2 _ => (r2.any fun y => pairM lt0 z.bx y.bx) = false ∧ ∀ y ∈ r2, BdOk y) (fun _ => [some (.t (bs.map bdD)), some (.d (.list (bs.map fun z => endD z.bx))), some (.i (i : Nat)), some (.d (endD z.bx)), none, none]) (fun _ => I) () ⟨h1.1, fun y hy => h3 y (List.mem_cons_of_mem _ hy)⟩ (iw_ll (e_sliceFrom (j := i + 1) (e_var rfl) (p_add (i := (i : Nat)) (j := 1) (e_var rfl) e_int))) (by rw [List.length_drop, List.length_map, ← hr, List.length_drop]) (fun j y h => by rw [← hr, List.getElem?_drop] at h; exact drop_at h) rfl (fun j y r2 _ hw2 => ?_) (fun _ j _ => s_next)
    have hy := hw2.2 y List.mem_cons_self
    have h4 : (pairM lt0 z.bx y.bx || r2.any fun y => pairM lt0 z.bx y.bx) = false := hw2.1
    rw [Bool.or_eq_false_iff] at h4
    refine ⟨_, g_name, .inl ⟨(), ⟨h4.2, fun y hy => hw2.2 y (List.mem_cons_of_mem _ hy)⟩, ?_⟩⟩
    refine s_lessN (ρ' := [some (.t (bs.map bdD)), some (.d (.list (bs.map fun z => endD z.bx))), some (.i (i : Nat)), some (.d (endD z.bx)), some (.d (endD y.bx)), none]) ⟨.inr rfl, .inr rfl, .inr rfl, .inr rfl, .inl rfl, .inr rfl, trivial⟩ ?_
    exact q_ifF (t_B (p_call (R := RPairs lt0) (ds := [.d (endD z.bx), .d (endD y.bx)]) (by walk_at "ev") ⟨z.bx, y.bx, rfl, hz.bx.bz, hy.bx.bz, rfl⟩)) h4.1 s_next
  · refine .inr ⟨_, rfl, fun k => s_any (q_asg (d := .d (.list (bs.map fun z => endD z.bx))) (e_lcW (es := bs.map fun z => endD z.bx) (iw_t (e_var rfl)) (by rw [List.length_map, List.length_map]) (by rw [List.length_map]; exact hlen) fun i y hi hy => ?_) ?_)⟩
    · skip
      obtain ⟨z, hz, rfl⟩ := getElem?_of_map hy
      have hzb := hbs z (List.mem_of_getElem? hz)
      rw [at0_map hz]
      exact ⟨_, w_name List.mem_cons_self, fun I' => p_call (R := REnds) (ds := [.d (bxd z.bx)]) (p_cons (p_call (R := RBoxOf) (ds := [.d (bdD z)]) (by walk_at "ev") ⟨z, rfl, rfl⟩) a_nil) ⟨z.bx, rfl, hzb.bx.p0.mono (by decide), hzb.bx.p1.mono (by decide), hzb.bx.s0.mono (by decide), hzb.bx.s1.mono (by decide), rfl⟩⟩
    refine s_loopR1 (α := Unit) (bs := bs) (f := fun i z => .tuple [.int (i : Nat), endD z.bx]) (fun i rest _ => ovB (rest.map (·.bx)) = true ∧ bs.drop i = rest ∧ ∀ z ∈ rest, BdOk z) (fun _ => [some (.t (bs.map bdD)), some (.d (.list (bs.map fun z => endD z.bx))), none, none, none, none]) (fun _ => I) () ⟨h0, rfl, hbs⟩ (iw_e (p_cons (e_var rfl) a_nil)) (by rw [List.length_map]) (fun i z h => by rw [at0_map h]) rfl (fun i z rest _ hw => ?_) (fun _ i hw => (by cases hw.1))
    obtain ⟨h1, hr, h3⟩ := hw
    have hz := h3 z List.mem_cons_self
    have h1 : ((rest.map (·.bx)).any (pairM lt0 z.bx) || ovB (rest.map (·.bx))) = true := h1
    rw [List.any_map] at h1
    replace hr : bs.drop (i + 1) = rest := by rw [← List.tail_drop, hr]; rfl
    by_cases c : (rest.any fun y => pairM lt0 z.bx y.bx) = true
    · refine ⟨_, (g_tup rfl (g_cons g_name (g_cons g_name g_nil))), .inr ⟨ret_fin, ?_⟩⟩
      refine s_lessN2 (ρ' := [some (.t (bs.map bdD)), some (.d (.list (bs.map fun z => endD z.bx))), some (.i (i : Nat)), some (.d (endD z.bx)), none, none]) rfl ?_
      refine s_loopR1 (α := Unit) (bs := rest) (f := fun _ y => endD y.bx) (fun _ r2 _ => (r2.any fun y => pairM lt0 z.bx y.bx) = true ∧ ∀ y ∈ r2, BdOk y) (fun _ => [some (.t (bs.map bdD)), some (.d (.list (bs.map fun z => endD z.bx))), some (.i (i : Nat)), some (.d (endD z.bx)), none, none]) (fun _ => I) () ⟨c, fun y hy => h3 y (List.mem_cons_of_mem _ hy)⟩ (iw_ll (e_sliceFrom (j := i + 1) (e_var rfl) (p_add (i := (i : Nat)) (j := 1) (e_var rfl) e_int))) (by rw [List.length_drop, List.length_map, ← hr, List.length_drop]) (fun j y h => by rw [← hr, List.getElem?_drop] at h; exact drop_at h) rfl (fun j y r2 _ hw2 => ?_) (fun _ j hw => by cases hw.1)
      have hy := hw2.2 y List.mem_cons_self
      have h4 : (pairM lt0 z.bx y.bx || r2.any fun y => pairM lt0 z.bx y.bx) = true := hw2.1
      by_cases c2 : pairM lt0 z.bx y.bx = true
      · exact ⟨_, g_name, .inr ⟨ret_fin, q_ifT (t_B (p_call (R := RPairs lt0) (ds := [.d (endD z.bx), .d (endD y.bx)]) (by walk_at "ev") ⟨z.bx, y.bx, rfl, hz.bx.bz, hy.bx.bz, rfl⟩)) c2 (s_raise' fun G H σ D gh io => hx _ rfl G H io)⟩⟩
      · have c2 := Bool.eq_false_iff.mpr c2
        rw [c2, Bool.false_or] at h4
        refine ⟨_, g_name, .inl ⟨(), ⟨h4, fun y hy => hw2.2 y (List.mem_cons_of_mem _ hy)⟩, ?_⟩⟩
        refine s_lessN (ρ' := [some (.t (bs.map bdD)), some (.d (.list (bs.map fun z => endD z.bx))), some (.i (i : Nat)), some (.d (endD z.bx)), some (.d (endD y.bx)), none]) ⟨.inr rfl, .inr rfl, .inr rfl, .inr rfl, .inl rfl, .inr rfl, trivial⟩ ?_
        exact q_ifF (t_B (p_call (R := RPairs lt0) (ds := [.d (endD z.bx), .d (endD y.bx)]) (by walk_at "ev") ⟨z.bx, y.bx, rfl, hz.bx.bz, hy.bx.bz, rfl⟩)) c2 s_next
    · have c := Bool.eq_false_iff.mpr c
      have h1 : ((rest.any fun y => pairM lt0 z.bx y.bx) || ovB (rest.map (·.bx))) = true := h1
      rw [c, Bool.false_or] at h1
      refine ⟨_, (g_tup rfl (g_cons g_name (g_cons g_name g_nil))), .inl ⟨(), ⟨h1, hr, fun y hy => h3 y (List.mem_cons_of_mem _ hy)⟩, ?_⟩⟩
      refine s_lessN (ρ' := [some (.t (bs.map bdD)), some (.d (.list (bs.map fun z => endD z.bx))), some (.i (i : Nat)), some (.d (endD z.bx)), none, none]) ⟨.inr rfl, .inr rfl, .inl rfl, .inl rfl, .inr rfl, .inr rfl, trivial⟩ ?_
      refine s_loopR1 (α := Unit) (bs := rest) (f := fun _ y => endD y.bx) (fun _ r2 _ => (r2.any fun y => pairM lt0 z.bx y.bx) = false ∧ ∀ y ∈ r2, BdOk y) (fun _ => [some (.t (bs.map bdD)), some (.d (.list (bs.map fun z => endD z.bx))), some (.i (i : Nat)), some (.d (endD z.bx)), none, none]) (fun _ => I) () ⟨c, fun y hy => h3 y (List.mem_cons_of_mem _ hy)⟩ (iw_ll (e_sliceFrom (j := i + 1) (e_var rfl) (p_add (i := (i : Nat)) (j := 1) (e_var rfl) e_int))) (by rw [List.length_drop, List.length_map, ← hr, List.length_drop]) (fun j y h => by rw [← hr, List.getElem?_drop] at h; exact drop_at h) rfl (fun j y r2 _ hw2 => ?_) (fun _ j _ => s_next)
      have hy := hw2.2 y List.mem_cons_self
      have h4 : (pairM lt0 z.bx y.bx || r2.any fun y => pairM lt0 z.bx y.bx) = false := hw2.1
      rw [Bool.or_eq_false_iff] at h4
      refine ⟨_, g_name, .inl ⟨(), ⟨h4.2, fun y hy => hw2.2 y (List.mem_cons_of_mem _ hy)⟩, ?_⟩⟩
      refine s_lessN (ρ' := [some (.t (bs.map bdD)), some (.d (.list (bs.map fun z => endD z.bx))), some (.i (i : Nat)), some (.d (endD z.bx)), some (.d (endD y.bx)), none]) ⟨.inr rfl, .inr rfl, .inr rfl, .inr rfl, .inl rfl, .inr rfl, trivial⟩ ?_
      exact q_ifF (t_B (p_call (R := RPairs lt0) (ds := [.d (endD z.bx), .d (endD y.bx)]) (by walk_at "ev") ⟨z.bx, y.bx, rfl, hz.bx.bz, hy.bx.bz, rfl⟩)) h4.1 s_next
theorem fok_check_joint (Tp : Top K mg base) : FnOk P w K mg base (L2.CX P w) 4 Tp.f_check_joint Tp.d_check_joint ["places", "joint"] (spX K (RJoint Tp.c_JointError)) := by
  have G_joint_way := fok_joint_way (P := P) (w := w) (base := base) Tp
  have G_compare := fok_compare (P := P) (w := w) (base := base) Tp
  refine Tp.F_check_joint.okX sc_check_joint (fun vs H Q E h => len_X (fun _ _ ⟨_, _, e, _⟩ => by rw [e]; rfl) h) (fun cdv A outer s H vs Q E hr h => ?_)
  refine ⟨_, (pss_cons (ps_asg (pv 1) (pg_tup rfl (pgs_cons (pg_name (i := 2) sc_check_joint.nd rfl (.inl rfl)) (pgs_cons (pg_name (i := 3) sc_check_joint.nd rfl (.inl rfl)) (pgs_cons (pg_name (i := 4) sc_check_joint.nd rfl (.inl rfl)) (pgs_cons (pg_name (i := 5) sc_check_joint.nd rfl (.inl rfl)) (pgs_cons (pg_name (i := 6) sc_check_joint.nd rfl (.inl rfl)) pgs_nil)))))))
      (pss_cons (ps_if (PW.pt (pw_or (pt_cmpR op_eq (pv 2) (pv 3) (nomark _)) (pw_or (pt_cmp (pc_dnotin (hu_of hr) (pv 2) (pv 0)) rfl) (pw_or1 (pt_cmp (pc_dnotin (hu_of hr) (pv 3) (pv 0)) rfl))))) (pss_one (ps_raise rfl (takes_of rfl rfl rfl rfl) (pmk_own PySem.F.excBase_ValueError Tp.xc_JointError Tp.gc_JointError Tp.kc_JointError (raises_own Tp.bc_JointError Tp.tc_JointError) rfl))) pss_nil)
      (pss_cons (ps_if (PW.pt (pw_or (pt_cmpR op_notIn_seq (pv 4) (pe_tup (pa_cons pe_int (pa_cons pe_int pa_nil))) rfl) (pw_or1 (pt_cmpR op_gt (pe_call G_compare (hr.mono (by decide)) (by rfl) Tp.g_compare Tp.F_compare.kp Tp.b_compare .nil pass0 (pa_cons (pv 5) (pa_cons (pv 6) pa_nil))) pe_int (nomark _))))) (pss_one (ps_raise rfl (takes_of rfl rfl rfl rfl) (pmk_own PySem.F.excBase_ValueError Tp.xc_JointError Tp.gc_JointError Tp.kc_JointError (raises_own Tp.bc_JointError Tp.tc_JointError) rfl))) pss_nil)
      (pss_cons (ps_set (i := 7) sc_check_joint.nd rfl (.inl rfl) (pe_call G_joint_way (hr.mono (by decide)) (by rfl) Tp.g_joint_way Tp.F_joint_way.kp Tp.b_joint_way .nil pass0 (pa_cons (pv 0) (pa_cons (pv 1) pa_nil))))
      (pss_one (ps_if (PW.pt (pw_or (pt_cmpR op_lt (pe_call G_compare (hr.mono (by decide)) (by rfl) Tp.g_compare Tp.F_compare.kp Tp.b_compare .nil pass0 (pa_cons (pv 7) (pa_cons (pv 5) pa_nil))) pe_int (nomark _)) (pw_or1 (pt_cmpR op_gt (pe_call G_compare (hr.mono (by decide)) (by rfl) Tp.g_compare Tp.F_compare.kp Tp.b_compare .nil pass0 (pa_cons (pv 7) (pa_cons (pv 6) pa_nil))) pe_int (nomark _))))) (pss_one (ps_raise rfl (takes_of rfl rfl rfl rfl) (pmk_own PySem.F.excBase_ValueError Tp.xc_JointError Tp.gc_JointError Tp.kc_JointError (raises_own Tp.bc_JointError Tp.tc_JointError) rfl))) pss_nil)))))), body_XN ?_ h⟩
  refine fun ds r hr I hx => ?_
  obtain ⟨bs, ⟨a, b, k, lo, hi⟩, rfl, hbs, hj, hr⟩ := hr
  walk_at "norm"
  have e1 : (decide (a = b) || (!(valD (plcM bs) (.inl a)).isSome || !(valD (plcM bs) (.inl b)).isSome)) = (decide (a = b) || (!(fnd bs a).isSome || !(fnd bs b).isSome)) := by rw [plc_get, plc_get, Option.isSome_map, Option.isSome_map]
  rcases hr with ⟨h0, rfl⟩ | ⟨h0, rfl⟩
  · obtain ⟨x, y, fa, fb, h1, h2, h3⟩ := jbad_no h0
    have fa : fnd bs a = some x := fa
    have fb : fnd bs b = some y := fb
    have hX := hbs x (fnd_mem fa)
    have hY := hbs y (fnd_mem fb)
    have hW : PL.Ok 4000 (wayM x y k) := way_ok hX hY
    have hR : RWay [.k (plcM bs), .d (jtD ⟨a, b, k, lo, hi⟩)] (.d (fr (wayM x y k))) := ⟨bs, ⟨a, b, k, lo, hi⟩, x, y, rfl, fa, fb, h2.1, hX, hY, rfl⟩
    have h3 : (decide (cmpM (wayM x y k) lo < 0) || decide (0 < cmpM (wayM x y k) hi)) = false := h3
    have h2 := h2.2
    generalize wayM x y k = W at *
    refine .inl ⟨rfl, [some (.k (plcM bs)), some (.d (jtD ⟨a, b, k, lo, hi⟩)), some (.i a), some (.i b), some (.i k), some (.d (fr lo)), some (.d (fr hi)), some (.d (fr W))], s_seq (s_asgG (e_var rfl) (g_tup rfl (g_cons g_name (g_cons g_name (g_cons g_name (g_cons g_name (g_cons g_name g_nil))))))) ?_⟩
    refine q_skip (t_or (p_test (p_eqI (i := a) (j := b) (e_var rfl) (e_var rfl))) fun _ => t_or (t_B (e_kNot (n := a) (e_var rfl) (e_var rfl))) fun _ => t_B (e_kNot (n := b) (e_var rfl) (e_var rfl))) (by rw [e1, fa, fb, decide_eq_false h1]; rfl) ?_
    refine q_skip (t_or (p_test (e_axis (n := k) (e_var rfl) (p_tup2 (by walk_at "ev")))) fun _ => p_test (p_gt (i := cmpM lo hi) (j := 0) (p_call (R := RCmp) (ds := [.d (fr lo), .d (fr hi)]) (by walk_at "ev") ⟨_, _, rfl, hj.lo.mono (by decide), hj.hi.mono (by decide), rfl⟩) e_int)) h2 ?_
    refine q_asg (d := .d (fr W)) (p_call (R := RWay) (ds := [.k (plcM bs), .d (jtD ⟨a, b, k, lo, hi⟩)]) (by walk_at "ev") hR) ?_
    exact q_ifF (t_or (p_test (p_lt (i := cmpM W lo) (j := 0) (p_call (R := RCmp) (ds := [.d (fr W), .d (fr lo)]) (by walk_at "ev") ⟨_, _, rfl, hW, hj.lo.mono (by decide), rfl⟩) e_int)) fun _ => p_test (p_gt (i := cmpM W hi) (j := 0) (p_call (R := RCmp) (ds := [.d (fr W), .d (fr hi)]) (by walk_at "ev") ⟨_, _, rfl, hW, hj.hi.mono (by decide), rfl⟩) e_int)) h3 s_next
  · refine .inr ⟨_, rfl, fun kk => s_any (s_seq (s_asgG (e_var rfl) (g_tup rfl (g_cons g_name (g_cons g_name (g_cons g_name (g_cons g_name (g_cons g_name g_nil))))))) ?_)⟩
    cases fa : fnd bs a with
    | none => exact s_stopR ret_fin (q_ifT (t_or (p_test (p_eqI (i := a) (j := b) (e_var rfl) (e_var rfl))) fun _ => t_or (t_B (e_kNot (n := a) (e_var rfl) (e_var rfl))) fun _ => t_B (e_kNot (n := b) (e_var rfl) (e_var rfl))) (by rw [e1, fa]; simp) (s_raise' fun G H σ D gh io => hx _ rfl G H io))
    | some x =>
      cases fb : fnd bs b with
      | none => exact s_stopR ret_fin (q_ifT (t_or (p_test (p_eqI (i := a) (j := b) (e_var rfl) (e_var rfl))) fun _ => t_or (t_B (e_kNot (n := a) (e_var rfl) (e_var rfl))) fun _ => t_B (e_kNot (n := b) (e_var rfl) (e_var rfl))) (by rw [e1, fa, fb]; simp) (s_raise' fun G H σ D gh io => hx _ rfl G H io))
      | some y =>
        have h0 := jbad_yes fa fb h0
        by_cases c1 : a = b
        · exact s_stopR ret_fin (q_ifT (t_or (p_test (p_eqI (i := a) (j := b) (e_var rfl) (e_var rfl))) fun _ => t_or (t_B (e_kNot (n := a) (e_var rfl) (e_var rfl))) fun _ => t_B (e_kNot (n := b) (e_var rfl) (e_var rfl))) (by rw [decide_eq_true c1]; rfl) (s_raise' fun G H σ D gh io => hx _ rfl G H io))
        refine q_skip (t_or (p_test (p_eqI (i := a) (j := b) (e_var rfl) (e_var rfl))) fun _ => t_or (t_B (e_kNot (n := a) (e_var rfl) (e_var rfl))) fun _ => t_B (e_kNot (n := b) (e_var rfl) (e_var rfl))) (by rw [e1, fa, fb, decide_eq_false c1]; rfl) ?_
        rw [decide_eq_false c1, Bool.false_or] at h0
        by_cases c2 : (!(decide (k = 0) || decide (k = 1)) || decide (0 < cmpM lo hi)) = true
        · exact s_stopR ret_fin (q_ifT (t_or (p_test (e_axis (n := k) (e_var rfl) (p_tup2 (by walk_at "ev")))) fun _ => p_test (p_gt (i := cmpM lo hi) (j := 0) (p_call (R := RCmp) (ds := [.d (fr lo), .d (fr hi)]) (by walk_at "ev") ⟨_, _, rfl, hj.lo.mono (by decide), hj.hi.mono (by decide), rfl⟩) e_int)) c2 (s_raise' fun G H σ D gh io => hx _ rfl G H io))
        have c2 := Bool.eq_false_iff.mpr c2
        refine q_skip (t_or (p_test (e_axis (n := k) (e_var rfl) (p_tup2 (by walk_at "ev")))) fun _ => p_test (p_gt (i := cmpM lo hi) (j := 0) (p_call (R := RCmp) (ds := [.d (fr lo), .d (fr hi)]) (by walk_at "ev") ⟨_, _, rfl, hj.lo.mono (by decide), hj.hi.mono (by decide), rfl⟩) e_int)) c2 ?_
        rw [c2, Bool.false_or] at h0
        have hk : k = 0 ∨ k = 1 := by
          rw [Bool.or_eq_false_iff] at c2
          exact Classical.or_iff_not_imp_left.mpr (by simpa using c2.1)
        have hX := hbs x (fnd_mem fa)
        have hY := hbs y (fnd_mem fb)
        have hW : PL.Ok 4000 (wayM x y k) := way_ok hX hY
        have hR : RWay [.k (plcM bs), .d (jtD ⟨a, b, k, lo, hi⟩)] (.d (fr (wayM x y k))) := ⟨bs, ⟨a, b, k, lo, hi⟩, x, y, rfl, fa, fb, hk, hX, hY, rfl⟩
        generalize wayM x y k = W at *
        refine q_asg (d := .d (fr W)) (p_call (R := RWay) (ds := [.k (plcM bs), .d (jtD ⟨a, b, k, lo, hi⟩)]) (by walk_at "ev") hR) ?_
        exact q_ifT (t_or (p_test (p_lt (i := cmpM W lo) (j := 0) (p_call (R := RCmp) (ds := [.d (fr W), .d (fr lo)]) (by walk_at "ev") ⟨_, _, rfl, hW, hj.lo.mono (by decide), rfl⟩) e_int)) fun _ => p_test (p_gt (i := cmpM W hi) (j := 0) (p_call (R := RCmp) (ds := [.d (fr W), .d (fr hi)]) (by walk_at "ev") ⟨_, _, rfl, hW, hj.hi.mono (by decide), rfl⟩) e_int)) h0 (s_raise' fun G H σ D gh io => hx _ rfl G H io)
theorem fok_law_vector (Tp : Top K mg base) : FnOk P w K mg base CX0 4 Tp.f_law_vector Tp.d_law_vector ["d", "most"] (spW K RVec) := by
  have G_law_part := fok_law_part (P := P) (w := w) (base := base) Tp
  refine Tp.F_law_vector.ok sc_law_vector (fun vs H Q E h => len_W (fun _ _ _ _ ⟨_, e, _⟩ => by rw [e]; rfl) h) (fun cdv A outer s H vs Q E hr h => ?_)
  refine ⟨_, (pss_one (ps_ret (pe_tup (pa_cons (pe_call G_law_part (hr.mono (by decide)) (by rfl) Tp.g_law_part Tp.F_law_part.kp Tp.b_law_part .nil pass0 (pa_cons (pv 0) (pa_cons (pv 1) pa_nil))) (pa_cons (pe_call G_law_part (hr.mono (by decide)) (by rfl) Tp.g_law_part Tp.F_law_part.kp Tp.b_law_part .nil pass0 (pa_cons (pv 0) (pa_cons (pv 1) pa_nil))) pa_nil))))), body_W ?_ h⟩
  refine fun ds C d C' r p J hf => ?_
  obtain ⟨m, rfl, ok, hm, hz, rfl, rfl⟩ := r
  walk_at "norm"
  obtain ⟨o1, _⟩ := part_ok (C := C) (m := m) ok hm hz
  refine s_ret (e_tup (a_cons (e_draw (R := RPart) (ds := [.i m]) (C := C) (by walk_at "ev") ⟨_, rfl, ok, hm, hz, rfl, rfl⟩ hf) (a_cons (e_draw (R := RPart) (ds := [.i m]) (by walk_at "ev") ⟨_, rfl, o1, hm, hz, rfl, rfl⟩ hf) a_nil)) (.cons (.cons .nil)) (show 2 ≤ 100000 by decide))
theorem fok_law_high (Tp : Top K mg base) : FnOk P w K mg base CX0 4 Tp.f_law_high Tp.d_law_high ["box", "k"] (spP K RHigh) := by
  have G_law_plus := fok_law_plus (P := P) (w := w) (base := base) Tp
  refine Tp.F_law_high.ok sc_law_high (fun vs H Q E h => len_P (fun _ _ ⟨_, _, e, _⟩ => by rw [e]; rfl) h) (fun cdv A outer s H vs Q E hr h => ?_)
  refine ⟨_, (pss_one (ps_ret (pe_call G_law_plus (hr.mono (by decide)) (by rfl) Tp.g_law_plus Tp.F_law_plus.kp Tp.b_law_plus .nil pass0 (pa_cons (pe_ix (r := rIxT K) ix_tup (pe_ix (r := rIxT K) ix_tup (pv 0) pe_int (fun _ _ => rfl)) (pv 1) (fun _ _ => rfl)) (pa_cons (pe_ix (r := rIxT K) ix_tup (pe_ix (r := rIxT K) ix_tup (pv 0) pe_int (fun _ _ => rfl)) (pv 1) (fun _ _ => rfl)) pa_nil))))), body_P ?_ h⟩
  refine fun ds d r I => ?_
  obtain ⟨b, k, rfl, hk, k1, k2, k3, k4, rfl⟩ := r
  walk_at "norm"
  refine p_ret ?_
  rcases hk with rfl | rfl
  · exact e_is (p_call (R := RPlus lplus) (ds := [.d (fr b.p0), .d (fr b.s0)]) (p_cons (p_ixT (p_i0 (e_var rfl)) (e_var rfl) rfl) (p_cons (p_ixT (p_i1 (e_var rfl)) (e_var rfl) rfl) a_nil)) (RPlus.mk k1 k3)) (by rw [lplus_eq k1.nrm k3.nrm]; rfl)
  · exact e_is (p_call (R := RPlus lplus) (ds := [.d (fr b.p1), .d (fr b.s1)]) (p_cons (p_ixT (p_i0 (e_var rfl)) (e_var rfl) rfl) (p_cons (p_ixT (p_i1 (e_var rfl)) (e_var rfl) rfl) a_nil)) (RPlus.mk k2 k4)) (by rw [lplus_eq k2.nrm k4.nrm]; rfl)
theorem fok_law_joints (Tp : Top K mg base) : FnOk P w K mg base CX0 4 Tp.f_law_joints Tp.d_law_joints ["d", "bodies", "many"] (spN K RJointsN) := by
  have G_law_take := fok_law_take (P := P) (w := w) (base := base) Tp
  have G_law_minus := fok_law_minus (P := P) (w := w) (base := base) Tp
  have G_law_f := fok_law_f (P := P) (w := w) (base := base) Tp
  have G_law_plus := fok_law_plus (P := P) (w := w) (base := base) Tp
  refine Tp.F_law_joints.ok sc_law_joints (fun vs H Q E h => len_N (fun _ _ _ _ ⟨_, _, e, _⟩ => by rw [e]; rfl) h) (fun cdv A outer s H vs Q E hr h => ?_)
  refine ⟨_, (pss_cons (ps_set (i := 3) sc_law_joints.nd rfl (.inl rfl) (pe_lst pa_nil))
      (pss_cons (ps_for PassesOwn.never rfl (pi_range1 (by rfl) Tp.n_range (pa_cons (pe_ifExp (pt_cmpR op_gt (pe_callB call_len_seq (by rfl) Tp.n_len (by decide +kernel) (pa_cons (pv 1) pa_nil)) pe_int (nomark _)) (pv 2) pe_int) pa_nil)) (pg_name (i := 4) sc_law_joints.nd rfl (.inl rfl)) (pss_cons (ps_set (i := 5) sc_law_joints.nd rfl (.inl rfl) (pe_ix (r := rIxT K) ix_tup (pv 1) (pe_call G_law_take (hr.mono (by decide)) (by rfl) Tp.g_law_take Tp.F_law_take.kp Tp.b_law_take .nil pass0 (pa_cons (pv 0) (pa_cons (pe_callB call_len_seq (by rfl) Tp.n_len (by decide +kernel) (pa_cons (pv 1) pa_nil)) pa_nil))) (fun _ _ => rfl)))
      (pss_cons (ps_set (i := 6) sc_law_joints.nd rfl (.inl rfl) (pe_ix (r := rIxT K) ix_tup (pv 1) (pe_call G_law_take (hr.mono (by decide)) (by rfl) Tp.g_law_take Tp.F_law_take.kp Tp.b_law_take .nil pass0 (pa_cons (pv 0) (pa_cons (pe_callB call_len_seq (by rfl) Tp.n_len (by decide +kernel) (pa_cons (pv 1) pa_nil)) pa_nil))) (fun _ _ => rfl)))
      (pss_cons (ps_set (i := 7) sc_law_joints.nd rfl (.inl rfl) (pe_call G_law_take (hr.mono (by decide)) (by rfl) Tp.g_law_take Tp.F_law_take.kp Tp.b_law_take .nil pass0 (pa_cons (pv 0) (pa_cons pe_int pa_nil))))
      (pss_cons (ps_set (i := 8) sc_law_joints.nd rfl (.inl rfl) (pe_call G_law_minus (hr.mono (by decide)) (by rfl) Tp.g_law_minus Tp.F_law_minus.kp Tp.b_law_minus .nil pass0 (pa_cons (pe_ix (r := rIxT K) ix_tup (pe_ix (r := rIxT K) ix_tup (pv 6) pe_int (fun _ _ => rfl)) (pv 7) (fun _ _ => rfl)) (pa_cons (pe_ix (r := rIxT K) ix_tup (pe_ix (r := rIxT K) ix_tup (pv 5) pe_int (fun _ _ => rfl)) (pv 7) (fun _ _ => rfl)) pa_nil))))
      (pss_one (ps_if (pt_cmpR (op_neD hr.units) (pe_ix (r := rIxT K) ix_tup (pv 5) pe_int (fun _ _ => rfl)) (pe_ix (r := rIxT K) ix_tup (pv 6) pe_int (fun _ _ => rfl)) (nomark _)) (pss_cons (ps_set (i := 9) sc_law_joints.nd rfl (.inl rfl) (pe_call G_law_minus (hr.mono (by decide)) (by rfl) Tp.g_law_minus Tp.F_law_minus.kp Tp.b_law_minus .nil pass0 (pa_cons (pv 8) (pa_cons (pe_call G_law_f (hr.mono (by decide)) (by rfl) Tp.g_law_f Tp.F_law_f.kp Tp.b_law_f .nil pass0 (pa_cons (pe_call G_law_take (hr.mono (by decide)) (by rfl) Tp.g_law_take Tp.F_law_take.kp Tp.b_law_take .nil pass0 (pa_cons (pv 0) (pa_cons pe_int pa_nil))) (pa_cons (pe_op op_add pe_int (pe_call G_law_take (hr.mono (by decide)) (by rfl) Tp.g_law_take Tp.F_law_take.kp Tp.b_law_take .nil pass0 (pa_cons (pv 0) (pa_cons pe_int pa_nil)))) pa_nil))) pa_nil))))
      (pss_one (ps_expr (pe_bm PySem.F.plainAttrs_list PySem.F.slot_list_append PySem.F.type_list_append mt_append (pv 3) (pa_cons (pe_tup (pa_cons (pe_ix (r := rIxT K) ix_tup (pv 5) pe_int (fun _ _ => rfl)) (pa_cons (pe_ix (r := rIxT K) ix_tup (pv 6) pe_int (fun _ _ => rfl)) (pa_cons (pv 7) (pa_cons (pv 9) (pa_cons (pe_call G_law_plus (hr.mono (by decide)) (by rfl) Tp.g_law_plus Tp.F_law_plus.kp Tp.b_law_plus .nil pass0 (pa_cons (pv 8) (pa_cons (pe_call G_law_f (hr.mono (by decide)) (by rfl) Tp.g_law_f Tp.F_law_f.kp Tp.b_law_f .nil pass0 (pa_cons (pe_call G_law_take (hr.mono (by decide)) (by rfl) Tp.g_law_take Tp.F_law_take.kp Tp.b_law_take .nil pass0 (pa_cons (pv 0) (pa_cons pe_int pa_nil))) (pa_cons (pe_op op_add pe_int (pe_call G_law_take (hr.mono (by decide)) (by rfl) Tp.g_law_take Tp.F_law_take.kp Tp.b_law_take .nil pass0 (pa_cons (pv 0) (pa_cons pe_int pa_nil)))) pa_nil))) pa_nil))) pa_nil)))))) pa_nil))))) pss_nil)))))))
      (pss_one (ps_ret (pe_callTy call_tuple_of (by rfl) Tp.n_tuple (by decide +kernel) (pa_cons (pv 3) pa_nil)))))), body_N ?_ h⟩
  refine fun ds C Z Po r p J hf zp => ?_
  obtain ⟨bs, many, rfl, hm, hne, hl0, hbs, nd, ok, rfl, rfl⟩ := r
  walk_at "norm"
  have z9 : ∀ m : Int, m.natAbs < 2 ^ 4 → m.natAbs < 2 ^ 8500 := fun m h => sz_le h (by decide)
  have hl1 : 0 < bs.length := List.length_pos_iff.mpr hne
  have lm : 0 < ((bs.length : Nat) : Int) := by omega
  have zl : ((bs.length : Nat) : Int).natAbs < 2 ^ 8500 := sz_le (m := 20) (by omega) (by decide)
  refine s_preN ?_
  refine s_newL fun q h1 => ?_
  have p1 : q ≠ p := fun z => h1 (.inl z)
  have n1 : ¬ J.foot q := fun z => h1 (.inr z)
  have hfq : ∀ {X}, ¬ (lJ K q X J).foot p := fun {X} z => by
    rcases z with z | z
    · exact p1 z.symm
    · exact hf z
  refine s_pre (I' := (dJ K p C (lJ K q ([]) J))) (fun G H z => ⟨z.2.1, z.1, z.2.2⟩) ?_
  have GT : ∀ v, decide (1 < ((bs.length : Nat) : Int)) = v → (decide (1 < (((bs.map bdD).length : Nat) : Int))) = v := fun v h => by rw [List.length_map]; exact h
  refine s_loopN (α := JSt) (JSt.W bs) (fun a => [some (.r p), some (.t (bs.map bdD)), some (.i (many : Nat)), some (.r q), none, none, none, none, none, none]) (fun a => (dJ K p a.C (lJ K q (a.js.map jtD) J))) ⟨[], C⟩ ⟨ok, Nat.le_refl _, fun j h => by simp at h, rfl⟩ (iw_r (n := if 1 < ((bs.length : Nat) : Int) then many else 0) (p_cons ?_ a_nil) (by split <;> omega)) rfl (fun i a hi hw => ⟨_, g_name, .inl ?_⟩) fun a hw => ?_
  · by_cases c : 1 < ((bs.length : Nat) : Int)
    · rw [if_pos c]
      exact e_ifT (t_is (p_test (p_gt (i := ((bs.map bdD).length : Nat)) (j := 1) (p_lenT (ds := bs.map bdD) (p_cons (e_var rfl) a_nil)) e_int)) (GT true (decide_eq_true c))) (e_var rfl)
    · rw [if_neg c]
      exact e_ifF (t_is (p_test (p_gt (i := ((bs.map bdD).length : Nat)) (j := 1) (p_lenT (ds := bs.map bdD) (p_cons (e_var rfl) a_nil)) e_int)) (GT false (decide_eq_false c))) e_int
  rotate_left
  · obtain ⟨oa, hl, hj, hg⟩ := hw
    refine s_pre (I' := lJ K q (a.js.map jtD) (dJ K p a.C J)) (fun G H z => ⟨z.2.1, z.1, z.2.2⟩) ?_
    refine s_freeze (i := 3) rfl (fun z => by
      rcases z with z | z
      · exact p1 z
      · exact n1 z) ?_
    refine s_ofRt (p_ret (e_tupOf (by walk_at "ev"))) fun v G H gh j dv => ⟨.t (a.js.map jtD), a.C, ⟨oa, a.js, rfl, ⟨?_, hj, hg⟩⟩, j, dv⟩
    refine Nat.le_trans hl ?_
    split <;> omega
  obtain ⟨oa, hl, hj, hg⟩ := hw
  obtain ⟨js, C1⟩ := a
  replace oa : DOk C1 := oa
  replace hl : js.length ≤ i := hl
  replace hj : ∀ j ∈ js, JtN j := hj
  replace hg : js.any (jbad bs) = false := hg
  have hi30 : i < 30 := by
    have : i < many := by
      split at hi <;> omega
    omega
  obtain ⟨oa', t1, t2⟩ := take_ok (C := C1) (m := ((bs.length : Nat) : Int)) oa lm
  obtain ⟨ix, hix⟩ : ∃ j : Nat, (take C1 ((bs.length : Nat) : Int)).1 = (j : Nat) := ⟨_, (Int.toNat_of_nonneg t1).symm⟩
  have lix : ix < bs.length := by omega
  obtain ⟨x, hx⟩ : ∃ z, bs[ix]? = some z := ⟨_, List.getElem?_eq_getElem lix⟩
  have mx := List.mem_of_getElem? hx
  refine s_seq (s_asg (d := .d (bdD x)) (e_ixT' (x := bdD x) (ds := bs.map bdD) (i := (ix : Nat)) (e_var rfl) (e_is (e_draw (R := RTake) (ds := [.i ((bs.length : Nat) : Int)]) (C := C1) (p_cons (e_var rfl) (p_cons (e_is (p_lenT (ds := bs.map bdD) (p_cons (e_var rfl) a_nil)) (by rw [List.length_map])) a_nil)) ⟨_, rfl, oa, lm, zl, rfl, rfl⟩ hfq) (by rw [hix])) (atI_nat (by rw [List.getElem?_map, hx]; rfl)))) ?_
  generalize (take C1 ((bs.length : Nat) : Int)).2 = C1' at *
  have mx_ := mx
  obtain ⟨oa'', t1, t2⟩ := take_ok (C := C1') (m := ((bs.length : Nat) : Int)) oa' lm
  obtain ⟨iy, hiy⟩ : ∃ j : Nat, (take C1' ((bs.length : Nat) : Int)).1 = (j : Nat) := ⟨_, (Int.toNat_of_nonneg t1).symm⟩
  have liy : iy < bs.length := by omega
  obtain ⟨y, hy⟩ : ∃ z, bs[iy]? = some z := ⟨_, List.getElem?_eq_getElem liy⟩
  have my := List.mem_of_getElem? hy
  refine s_seq (s_asg (d := .d (bdD y)) (e_ixT' (x := bdD y) (ds := bs.map bdD) (i := (iy : Nat)) (e_var rfl) (e_is (e_draw (R := RTake) (ds := [.i ((bs.length : Nat) : Int)]) (C := C1') (p_cons (e_var rfl) (p_cons (e_is (p_lenT (ds := bs.map bdD) (p_cons (e_var rfl) a_nil)) (by rw [List.length_map])) a_nil)) ⟨_, rfl, oa', lm, zl, rfl, rfl⟩ hfq) (by rw [hiy])) (atI_nat (by rw [List.getElem?_map, hy]; rfl)))) ?_
  generalize (take C1' ((bs.length : Nat) : Int)).2 = C1'' at *
  obtain ⟨oc, t1, t2⟩ := take_ok (C := C1'') (m := 2) oa'' (by decide)
  refine s_seq (s_asg (e_draw (R := RTake) (ds := [.i 2]) (C := C1'') (by walk_at "ev") ⟨_, rfl, oa'', by decide, z9 _ (by decide), rfl, rfl⟩ hfq)) ?_
  have hk : (take C1'' 2).1 = 0 ∨ (take C1'' 2).1 = 1 := by omega
  generalize (take C1'' 2).1 = k at *
  generalize (take C1'' 2).2 = C2 at *
  have hS : Sm 6 800 (wayM x y k) := by
    unfold wayM
    split
    · exact (hbs y my).bx.p0.minus (hbs x mx_).bx.p0
    · exact (hbs y my).bx.p1.minus (hbs x mx_).bx.p1
  have hW : PL.Ok 20 (wayM x y k) := hS.ok (by decide) (by decide) (by decide)
  refine q_asg (d := .d (fr (wayM x y k))) ?_ ?_
  · rcases hk with rfl | rfl
    · exact e_is (p_call (R := RPlus lminus) (ds := [.d (fr y.bx.p0), .d (fr x.bx.p0)]) (p_cons (p_ixT (ds := [fr y.bx.p0, fr y.bx.p1]) (i := 0) (p_i1 (e_var rfl)) (e_var rfl) rfl) (p_cons (p_ixT (ds := [fr x.bx.p0, fr x.bx.p1]) (i := 0) (p_i1 (e_var rfl)) (e_var rfl) rfl) a_nil)) (RPlus.mk ((hbs y my).bx.o (by decide)).p0 ((hbs x mx_).bx.o (by decide)).p0)) (by rw [lminus_eq (hbs y my).bx.p0.nrm (hbs x mx_).bx.p0.nrm]; rfl)
    · exact e_is (p_call (R := RPlus lminus) (ds := [.d (fr y.bx.p1), .d (fr x.bx.p1)]) (p_cons (p_ixT (ds := [fr y.bx.p0, fr y.bx.p1]) (i := 1) (p_i1 (e_var rfl)) (e_var rfl) rfl) (p_cons (p_ixT (ds := [fr x.bx.p0, fr x.bx.p1]) (i := 1) (p_i1 (e_var rfl)) (e_var rfl) rfl) a_nil)) (RPlus.mk ((hbs y my).bx.o (by decide)).p1 ((hbs x mx_).bx.o (by decide)).p1)) (by rw [lminus_eq (hbs y my).bx.p1.nrm (hbs x mx_).bx.p1.nrm]; rfl)
  by_cases c : x.nm = y.nm
  · refine s_ne (ρ1 := [some (.r p), some (.t (bs.map bdD)), some (.i (many : Nat)), some (.r q), none, none, none, none, none, none]) (J := (dJ K p C2 (lJ K q (js.map jtD) J))) (s_lessN (ρ' := [some (.r p), some (.t (bs.map bdD)), some (.i (many : Nat)), some (.r q), some (.i (i : Nat)), some (.d (bdD x)), some (.d (bdD y)), some (.i k), some (.d (fr (wayM x y k))), none]) ⟨.inr rfl, .inr rfl, .inr rfl, .inr rfl, .inl rfl, .inl rfl, .inl rfl, .inl rfl, .inl rfl, .inr rfl, trivial⟩ (q_ifF (t_is (p_test (p_neD (x := .int x.nm) (y := .int y.nm) (p_i0 (e_var rfl)) (p_i0 (e_var rfl)) rfl rfl)) (by rw [eqv_int, decide_eq_true c]; rfl)) rfl s_next)) ⟨⟨js, C2⟩, ⟨oc, by show js.length ≤ i + 1; omega, hj, hg⟩, rfl, rfl⟩
  · refine q_ifT (t_is (p_test (p_neD (x := .int x.nm) (y := .int y.nm) (p_i0 (e_var rfl)) (p_i0 (e_var rfl)) rfl rfl)) (by rw [eqv_int, decide_eq_false c]; rfl)) rfl ?_
    obtain ⟨o1, a1, a2⟩ := take_ok (C := C2) (m := 3) oc (by decide)
    obtain ⟨o2, b1, b2⟩ := take_ok (C := (take C2 3).2) (m := 2) o1 (by decide)
    have f1 := frac_in a1 a2 b1 b2
    refine s_seq (s_asg (d := .d (fr (lminus (wayM x y k) (lf (take C2 3).1 (1 + (take (take C2 3).2 2).1))))) (e_call (R := RPlus lminus) (a_cons (e_var rfl) (a_cons (e_call (R := RF) (a_cons (e_draw (R := RTake) (ds := [.i 3]) (C := C2) (by walk_at "ev") ⟨_, rfl, oc, by decide, z9 _ (by decide), rfl, rfl⟩ hfq) (a_cons (e_add e_int (e_draw (R := RTake) (ds := [.i 2]) (by walk_at "ev") ⟨_, rfl, o1, by decide, z9 _ (by decide), rfl, rfl⟩ hfq)) a_nil)) (RF.mk (m := 10) (n := 10) (by omega) (by omega) (by omega) (by decide) (by decide))) a_nil)) (RPlus.mk hW (f1.1.ok (k := 10) (by decide) (by decide) (by decide))))) ?_
    generalize lf (take C2 3).1 (1 + (take (take C2 3).2 2).1) = u at *
    generalize (take (take C2 3).2 2).2 = C3 at *
    obtain ⟨o3, a1, a2⟩ := take_ok (C := C3) (m := 3) o2 (by decide)
    obtain ⟨o4, b1, b2⟩ := take_ok (C := (take C3 3).2) (m := 2) o3 (by decide)
    have f2 := frac_in a1 a2 b1 b2
    have hlJ : (js.map jtD).length < 100000 := by rw [List.length_map]; omega
    refine s_ne (ρ1 := [some (.r p), some (.t (bs.map bdD)), some (.i (many : Nat)), some (.r q), none, none, none, none, none, none]) (J := (dJ K p (take (take C3 3).2 2).2 (lJ K q (js.map jtD ++ [jtD ⟨x.nm, y.nm, k, lminus (wayM x y k) u, lplus (wayM x y k) (lf (take C3 3).1 (1 + (take (take C3 3).2 2).1))⟩]) J))) (s_lessN (ρ' := [some (.r p), some (.t (bs.map bdD)), some (.i (many : Nat)), some (.r q), some (.i (i : Nat)), some (.d (bdD x)), some (.d (bdD y)), some (.i k), some (.d (fr (wayM x y k))), some (.d (fr (lminus (wayM x y k) u)))]) ⟨.inr rfl, .inr rfl, .inr rfl, .inr rfl, .inl rfl, .inl rfl, .inl rfl, .inl rfl, .inl rfl, .inl rfl, trivial⟩ (s_appD (x := jtD ⟨x.nm, y.nm, k, lminus (wayM x y k) u, lplus (wayM x y k) (lf (take C3 3).1 (1 + (take (take C3 3).2 2).1))⟩) (e_tup (ds := [.i x.nm, .i y.nm, .i k, .d (fr (lminus (wayM x y k) u)), .d (fr (lplus (wayM x y k) (lf (take C3 3).1 (1 + (take (take C3 3).2 2).1))))]) (a_cons (p_i0 (e_var rfl)) (a_cons (p_i0 (e_var rfl)) (a_cons (e_var rfl) (a_cons (e_var rfl) (a_cons (e_call (R := RPlus lplus) (a_cons (e_var rfl) (a_cons (e_call (R := RF) (a_cons (e_draw (R := RTake) (ds := [.i 3]) (C := C3) (by walk_at "ev") ⟨_, rfl, o2, by decide, z9 _ (by decide), rfl, rfl⟩ hfq) (a_cons (e_add e_int (e_draw (R := RTake) (ds := [.i 2]) (by walk_at "ev") ⟨_, rfl, o3, by decide, z9 _ (by decide), rfl, rfl⟩ hfq)) a_nil)) (RF.mk (m := 10) (n := 10) (by omega) (by omega) (by omega) (by decide) (by decide))) a_nil)) (RPlus.mk hW (f2.1.ok (k := 10) (by decide) (by decide) (by decide)))) a_nil))))) (.cons (.cons (.cons (.cons (.cons .nil))))) (show 5 ≤ 100000 by decide)) rfl hlJ n1 p1)) ⟨⟨js ++ [⟨x.nm, y.nm, k, lminus (wayM x y k) u, lplus (wayM x y k) (lf (take C3 3).1 (1 + (take (take C3 3).2 2).1))⟩], (take (take C3 3).2 2).2⟩, ⟨o4, ?_, ?_, ?_⟩, rfl, ?_⟩
    · show (js ++ [_]).length ≤ i + 1
      rw [List.length_append, List.length_singleton]
      omega
    · intro j hjj
      rcases List.mem_append.mp hjj with h | h
      · exact hj j h
      · rw [List.mem_singleton.mp h]
        exact ⟨by show Sm 6 802 (lminus (wayM x y k) u); rw [lminus_eq hW.nrm f1.1.nrm]; exact hS.minus (f1.1.mono (by decide) (Nat.le_refl _)), by show Sm 6 802 (lplus (wayM x y k) _); rw [lplus_eq hW.nrm f2.1.nrm]; exact hS.plus (f2.1.mono (by decide) (Nat.le_refl _)), hk⟩
    · show (js ++ [_]).any (jbad bs) = false
      rw [List.any_append, hg]
      show (jbad bs _ || false) = false
      rw [jgood (fnd_of nd mx_) (fnd_of nd my) c hk hW.nrm f1.1.nrm f1.2 f2.1.nrm f2.2]
      rfl
    · show _ = (dJ K p (take (take C3 3).2 2).2 (lJ K q ((js ++ [_]).map jtD) J))
      rw [List.map_append]
      rfl
theorem fok_law_can (Tp : Top K mg base) : FnOk P w K mg base CX0 4 Tp.f_law_can Tp.d_law_can ["state", "axis", "one", "other", "gap"] (spP K RCan) := by
  have G_law_less := fok_law_less (P := P) (w := w) (base := base) Tp
  have G_law_plus := fok_law_plus (P := P) (w := w) (base := base) Tp
  have G_law_minus := fok_law_minus (P := P) (w := w) (base := base) Tp
  refine Tp.F_law_can.ok sc_law_can (fun vs H Q E h => len_P (fun _ _ ⟨_, _, _, _, _, e, _⟩ => by rw [e]; rfl) h) (fun cdv A outer s H vs Q E hr h => ?_)
  refine ⟨_, (pss_cons (ps_set (i := 5) sc_law_can.nd rfl (.inl rfl) (pe_lst pa_nil))
      (pss_cons (ps_for PassesOwn.never rfl (pi_tup (pe_ix (r := rIxT K) ix_tup (pv 0) pe_int (fun _ _ => rfl))) (pg_tup rfl (pgs_cons (pg_name (i := 6) sc_law_can.nd rfl (.inl rfl)) (pgs_cons (pg_name (i := 7) sc_law_can.nd rfl (.inl rfl)) (pgs_cons (pg_name (i := 8) sc_law_can.nd rfl (.inl rfl)) (pgs_cons (pg_name (i := 9) sc_law_can.nd rfl (.inl rfl)) (pgs_cons (pg_name (i := 10) sc_law_can.nd rfl (.inl rfl)) pgs_nil)))))) (pss_one (ps_if (pt_cmpR op_eq (pv 8) (pv 1) (nomark _)) (pss_one (ps_set (i := 5) sc_law_can.nd rfl (.inl rfl) (pe_op op_cat (pv 5) (pe_lst (pa_cons (pe_tup (pa_cons (pv 6) (pa_cons (pv 7) (pa_cons (pv 10) pa_nil)))) (pa_cons (pe_tup (pa_cons (pv 7) (pa_cons (pv 6) (pa_cons (pe_tup (pa_cons (pe_op op_sub pe_int (pe_ix (r := rIxT K) ix_tup (pv 9) pe_int (fun _ _ => rfl))) (pa_cons (pe_ix (r := rIxT K) ix_tup (pv 9) pe_int (fun _ _ => rfl)) pa_nil))) pa_nil)))) pa_nil)))))) pss_nil)))
      (pss_cons (ps_setLc (i := 12) (own := [("body", 11)]) (g := gName 11) rfl sc_law_can.nd rfl rfl (sw_true rfl rfl rfl rfl) (pi_tup (pe_ix (r := rIxT K) ix_tup (pv 0) pe_int (fun _ _ => rfl))) (blkOk_by (N := ["state", "axis", "one", "other", "gap", "limits", "a", "b", "k", "low", "high", "body", "fixed", "places", "turn", "calm", "n"]) (sc := defScope s_law_can) (by decide +kernel)) (fun _ _ _ _ _ => pg_name (i := 11) sc_law_can.nd rfl (Or.inl rfl)) (fun _ _ _ _ _ => (pts_one (pt_cmpR op_eq (pe_ix (r := rIxT K) ix_tup (pv 11) pe_int (fun _ _ => rfl)) pe_int (nomark _)))) (fun _ _ _ _ _ => (pv 11)))
      (pss_cons (ps_for PassesOwn.never rfl (pi_list (pv 12)) (pg_name (i := 6) sc_law_can.nd rfl (.inl rfl)) (pss_one (ps_for PassesOwn.never rfl (pi_list (pv 12)) (pg_name (i := 7) sc_law_can.nd rfl (.inl rfl)) (pss_one (ps_expr (pe_bm PySem.F.plainAttrs_list PySem.F.slot_list_append PySem.F.type_list_append mt_append (pv 5) (pa_cons (pe_tup (pa_cons (pe_ix (r := rIxT K) ix_tup (pv 6) pe_int (fun _ _ => rfl)) (pa_cons (pe_ix (r := rIxT K) ix_tup (pv 7) pe_int (fun _ _ => rfl)) (pa_cons (pe_call G_law_minus (hr.mono (by decide)) (by rfl) Tp.g_law_minus Tp.F_law_minus.kp Tp.b_law_minus .nil pass0 (pa_cons (pe_ix (r := rIxT K) ix_tup (pe_ix (r := rIxT K) ix_tup (pv 7) pe_int (fun _ _ => rfl)) (pv 1) (fun _ _ => rfl)) (pa_cons (pe_ix (r := rIxT K) ix_tup (pe_ix (r := rIxT K) ix_tup (pv 6) pe_int (fun _ _ => rfl)) (pv 1) (fun _ _ => rfl)) pa_nil))) pa_nil)))) pa_nil)))))))
      (pss_cons (ps_set (i := 5) sc_law_can.nd rfl (.inl rfl) (pe_op op_cat (pv 5) (pe_lst (pa_cons (pe_tup (pa_cons (pv 2) (pa_cons (pv 3) (pa_cons (pv 4) pa_nil)))) (pa_cons (pe_tup (pa_cons (pv 3) (pa_cons (pv 2) (pa_cons (pe_tup (pa_cons (pe_op op_sub pe_int (pe_ix (r := rIxT K) ix_tup (pv 4) pe_int (fun _ _ => rfl))) (pa_cons (pe_ix (r := rIxT K) ix_tup (pv 4) pe_int (fun _ _ => rfl)) pa_nil))) pa_nil)))) pa_nil)))))
      (pss_cons (ps_set (i := 13) sc_law_can.nd rfl (.inl rfl) pe_dnewK)
      (pss_cons (ps_for PassesOwn.never rfl (pi_tup (pe_ix (r := rIxT K) ix_tup (pv 0) pe_int (fun _ _ => rfl))) (pg_name (i := 11) sc_law_can.nd rfl (.inl rfl)) (pss_one (ps_dput (hu_of hr) (pv 13) (pe_ix (r := rIxT K) ix_tup (pv 11) pe_int (fun _ _ => rfl)) (pe_tup (pa_cons pe_int (pa_cons pe_int pa_nil))) rfl)))
      (pss_cons (ps_for PassesOwn.never rfl (pi_range1 (by rfl) Tp.n_range (pa_cons (pe_op op_add (pe_callB call_lenD (by rfl) Tp.n_len (by decide +kernel) (pa_cons (pv 13) pa_nil)) pe_int) pa_nil)) (pg_name (i := 14) sc_law_can.nd rfl (.inl rfl)) (pss_cons (ps_set (i := 15) sc_law_can.nd rfl (.inl rfl) pe_bl)
      (pss_cons (ps_for PassesOwn.never rfl (pi_list (pv 5)) (pg_tup rfl (pgs_cons (pg_name (i := 6) sc_law_can.nd rfl (.inl rfl)) (pgs_cons (pg_name (i := 7) sc_law_can.nd rfl (.inl rfl)) (pgs_cons (pg_name (i := 16) sc_law_can.nd rfl (.inl rfl)) pgs_nil)))) (pss_one (ps_if (pt_val (pe_call G_law_less (hr.mono (by decide)) (by rfl) Tp.g_law_less Tp.F_law_less.kp Tp.b_law_less .nil pass0 (pa_cons (pe_call G_law_plus (hr.mono (by decide)) (by rfl) Tp.g_law_plus Tp.F_law_plus.kp Tp.b_law_plus .nil pass0 (pa_cons (pe_dget (hu_of hr) (pv 13) (pv 6) (fun _ _ => rfl)) (pa_cons (pv 16) pa_nil))) (pa_cons (pe_dget (hu_of hr) (pv 13) (pv 7) (fun _ _ => rfl)) pa_nil)))) (pss_cons (ps_dput (hu_of hr) (pv 13) (pv 7) (pe_call G_law_plus (hr.mono (by decide)) (by rfl) Tp.g_law_plus Tp.F_law_plus.kp Tp.b_law_plus .nil pass0 (pa_cons (pe_dget (hu_of hr) (pv 13) (pv 6) (fun _ _ => rfl)) (pa_cons (pv 16) pa_nil))) rfl)
      (pss_one (ps_set (i := 15) sc_law_can.nd rfl (.inl rfl) pe_bl))) pss_nil)))
      (pss_one (ps_if (pt_val (pv 15)) (pss_one (ps_ret pe_bl)) pss_nil)))))
      (pss_one (ps_ret pe_bl)))))))))), body_P ?_ h⟩
  refine fun ds d r I => ?_
  obtain ⟨st, k, one, other, gp, rfl, hg, lb, lj, hk, m1, m2, sg, rfl⟩ := r
  walk_at "norm"
  refine s_newL fun q0 hq0 => ?_
  refine s_loopN (α := List FEd × Addr) (fun i a => a.1 = (st.js.take i).flatMap (jE k) ∧ a.1.length ≤ 2 * i ∧ ¬ I.foot a.2) (fun a => [some (.d (stD st)), some (.i k), some (.i one), some (.i other), some (.d (fr gp)), some (.r a.2), none, none, none, none, none, none, none, none, none, none, none]) (fun a => lJ K a.2 (a.1.map feD) I) ([], q0) ⟨rfl, Nat.le_refl _, hq0⟩ (iw_t (p_i1 (e_var rfl))) rfl (fun i a hi hw => ?_) fun a hw => ?_
  · rw [List.length_map] at hi
    obtain ⟨l, q⟩ := a
    obtain ⟨h1, h2, hq⟩ := hw
    have h1 : l = (st.js.take i).flatMap (jE k) := h1
    have h2 : l.length ≤ 2 * i := h2
    have hq : ¬ I.foot q := hq
    obtain ⟨z, hz⟩ : ∃ z, st.js[i]? = some z := ⟨st.js[i], List.getElem?_eq_getElem hi⟩
    have J := hg.js z (List.mem_of_getElem? hz)
    have et : st.js.take (i + 1) = st.js.take i ++ [z] := by rw [List.take_add_one, hz]; rfl
    have en : l ++ jE k z = (st.js.take (i + 1)).flatMap (jE k) := by rw [et, List.flatMap_append, h1]; simp
    have jl := jE_len k z
    rw [at0_map hz]
    refine ⟨_, g_tup rfl (g_cons g_name (g_cons g_name (g_cons g_name (g_cons g_name (g_cons g_name g_nil))))), .inl ?_⟩
    have T : ∀ I' : Asn, T K (tTest (tOp rEq (tVar 8) (tVar 1))) [some (.d (stD st)), some (.i k), some (.i one), some (.i other), some (.d (fr gp)), some (.r q), some (.i z.a), some (.i z.b), some (.i z.k), some (.d (fr z.lo)), some (.d (fr z.hi)), none, none, none, none, none, none] I' (decide (z.k = k)) I' := fun I' => p_test (p_eqI (i := z.k) (j := k) (e_var rfl) (e_var rfl))
    by_cases c : z.k = k
    · have e : jE k z = [(z.a, z.b, z.hi), (z.b, z.a, minusM (0, 1) z.lo)] := if_pos c
      refine q_ifT (T _) (decide_eq_true c) ?_
      refine s_neW (P := fun r L => ∃ q', ¬ I.foot q' ∧ r = [some (.d (stD st)), some (.i k), some (.i one), some (.i other), some (.d (fr gp)), some (.r q'), some (.i z.a), some (.i z.b), some (.i z.k), some (.d (fr z.lo)), some (.d (fr z.hi)), none, none, none, none, none, none] ∧ L = lJ K q' ((l ++ jE k z).map feD) I) (s_asgOne (eo_cat (es := [feD (z.a, z.b, z.hi), feD (z.b, z.a, minusM (0, 1) z.lo)]) rfl (e_lstL (a_cons (e_tup (a_cons (e_var rfl) (a_cons (e_var rfl) (a_cons (e_var rfl) a_nil))) (.cons (.cons (.cons .nil))) (show 3 ≤ 100000 by decide)) (a_cons (e_tup (a_cons (e_var rfl) (a_cons (e_var rfl) (a_cons (e_is (p_frac (a := negF z.lo) (x := 0 - z.lo.1) (y := z.lo.2) (p_cons (p_sub (i := 0) (j := z.lo.1) e_int (p_f1 (a := z.lo) (e_var rfl))) (p_cons (p_f2 (a := z.lo) (e_var rfl)) a_nil)) rfl) (by rw [neg_eq J.lo])) a_nil))) (.cons (.cons (.cons .nil))) (show 3 ≤ 100000 by decide)) a_nil)) (.cons (.cons .nil)) (by show 2 ≤ 100000; decide)) (by rw [List.length_map]; show l.length + 2 ≤ 100000; omega)) fun q' nf => ⟨q', nf, rfl, by rw [e, List.map_append]; rfl⟩) ?_
      rintro r L ⟨q', nf, rfl, rfl⟩
      exact ⟨[some (.d (stD st)), some (.i k), some (.i one), some (.i other), some (.d (fr gp)), some (.r q'), none, none, none, none, none, none, none, none, none, none, none], ⟨.inr rfl, .inr rfl, .inr rfl, .inr rfl, .inr rfl, .inr rfl, .inl rfl, .inl rfl, .inl rfl, .inl rfl, .inl rfl, .inl rfl, .inl rfl, .inl rfl, .inl rfl, .inl rfl, .inl rfl, trivial⟩, (l ++ jE k z, q'), ⟨en, by show (l ++ jE k z).length ≤ _; rw [List.length_append]; omega, nf⟩, rfl, rfl⟩
    · have e : jE k z = [] := if_neg c
      refine q_ifF (T _) (decide_eq_false c) ?_
      refine s_ne (s_lessN (ρ' := [some (.d (stD st)), some (.i k), some (.i one), some (.i other), some (.d (fr gp)), some (.r q), some (.i z.a), some (.i z.b), some (.i z.k), some (.d (fr z.lo)), some (.d (fr z.hi)), none, none, none, none, none, none]) (ρ'' := [some (.d (stD st)), some (.i k), some (.i one), some (.i other), some (.d (fr gp)), some (.r q), none, none, none, none, none, none, none, none, none, none, none]) ⟨.inr rfl, .inr rfl, .inr rfl, .inr rfl, .inr rfl, .inr rfl, .inl rfl, .inl rfl, .inl rfl, .inl rfl, .inl rfl, .inl rfl, .inl rfl, .inl rfl, .inl rfl, .inl rfl, .inl rfl, trivial⟩ s_next) ?_
      rw [e, List.append_nil] at en
      exact ⟨(l, q), ⟨en, by show l.length ≤ _; omega, hq⟩, rfl, rfl⟩
  obtain ⟨l, q1⟩ := a
  obtain ⟨h1, h2, hq1⟩ := hw
  rw [List.length_map] at h1 h2
  have h1 : l = st.js.flatMap (jE k) := by
    have : l = (st.js.take st.js.length).flatMap (jE k) := h1
    rw [List.take_of_length_le (Nat.le_refl _)] at this
    exact this
  have h2 : l.length ≤ 2 * st.js.length := h2
  have hq1 : ¬ I.foot q1 := hq1
  show S K _ [some (.d (stD st)), some (.i k), some (.i one), some (.i other), some (.d (fr gp)), some (.r q1), none, none, none, none, none, none, none, none, none, none, none] (lJ K q1 (l.map feD) I) _
  have eR := row_get bd0 (fun b : Bd => decide (b.ms = 0)) bdD st.bs
  refine q_asg (d := .d (.list ((fixM st).map bdD))) (e_is (e_lcTW (b := fun j => decide ((st.bs.getD j bd0).ms = 0)) (e := fun j => bdD (st.bs.getD j bd0)) (iw_t (p_i0 (e_var rfl))) (by rw [List.length_map]; omega) (fun i hi => ?_)) (by rw [List.length_map, eR, fix_law hg])) ?_
  · rw [List.length_map] at hi
    have hz : st.bs[i]? = some (st.bs.getD i bd0) := by rw [List.getD_eq_getElem?_getD, List.getElem?_eq_getElem hi]; rfl
    rw [at0_map hz]
    generalize st.bs.getD i bd0 = z
    exact ⟨_, w_name (by decide), fun I' => p_test (p_eqI (i := z.ms) (j := 0) (p_ixT (i := 3) (x := .int z.ms) (e_var rfl) e_int rfl) e_int), fun _ I' => e_var rfl⟩
  have lf : (fixM st).length ≤ st.bs.length := List.length_filter_le _ _
  have hf : ∀ b ∈ fixM st, BdM 400 b := fun b hb => hg.bs b (List.mem_filter.mp hb).1
  generalize ef : fixM st = fs at lf hf ⊢
  have e0 : lJ K q1 (l.map feD) I = lJ K q1 ((l ++ ([] : List Bd).flatMap (rowE k fs)).map feD) I := by rw [List.flatMap_nil, List.append_nil]
  rw [e0]
  refine s_loopR (α := List Bd) (bs := fs) (f := fun _ z => bdD z) (fun i rest a => fs = a ++ rest) (fun _ => [some (.d (stD st)), some (.i k), some (.i one), some (.i other), some (.d (fr gp)), some (.r q1), none, none, none, none, none, none, some (.d (.list (fs.map bdD))), none, none, none, none]) (fun a => lJ K q1 ((l ++ a.flatMap (rowE k fs)).map feD) I) [] rfl (iw_l (e_var rfl)) (by rw [List.length_map]) (fun i z h => at0_map h) rfl (fun i x rest a hw => ?_) fun a i hw => ?_
  · have hx : x ∈ fs := by rw [hw]; simp
    have okx := (hf x hx).bx
    have la : a.length ≤ 6 := by
      have := congrArg List.length hw
      rw [List.length_append] at this
      omega
    have lr : (a.flatMap (rowE k fs)).length ≤ 36 := by
      have : ∀ a : List Bd, (a.flatMap (rowE k fs)).length = a.length * fs.length := fun a => by
        induction a with
        | nil => simp
        | cons y a ih => rw [List.flatMap_cons, List.length_append, ih, List.length_cons, Nat.succ_mul]; unfold rowE; rw [List.length_map]; omega
      rw [this]
      have : a.length * fs.length ≤ 6 * 6 := Nat.mul_le_mul la (by omega)
      omega
    refine ⟨_, g_name, .inl ⟨a ++ [x], by rw [hw]; simp, ?_⟩⟩
    refine s_lessN (ρ' := [some (.d (stD st)), some (.i k), some (.i one), some (.i other), some (.d (fr gp)), some (.r q1), some (.d (bdD x)), none, none, none, none, none, some (.d (.list (fs.map bdD))), none, none, none, none]) ⟨.inr rfl, .inr rfl, .inr rfl, .inr rfl, .inr rfl, .inr rfl, .inl rfl, .inl rfl, .inl rfl, .inl rfl, .inl rfl, .inl rfl, .inr rfl, .inl rfl, .inl rfl, .inl rfl, .inl rfl, trivial⟩ ?_
    have e1 : lJ K q1 ((l ++ a.flatMap (rowE k fs)).map feD) I = lJ K q1 ((l ++ a.flatMap (rowE k fs) ++ rowE k [] x).map feD) I := by rw [show rowE k [] x = [] from rfl, List.append_nil]
    rw [e1]
    refine s_loopR1 (α := List Bd) (bs := fs) (f := fun _ z => bdD z) (fun i rest a2 => fs = a2 ++ rest) (fun _ => [some (.d (stD st)), some (.i k), some (.i one), some (.i other), some (.d (fr gp)), some (.r q1), some (.d (bdD x)), none, none, none, none, none, some (.d (.list (fs.map bdD))), none, none, none, none]) (fun a2 => lJ K q1 ((l ++ a.flatMap (rowE k fs) ++ rowE k a2 x).map feD) I) [] rfl (iw_l (e_var rfl)) (by rw [List.length_map]) (fun i z h => at0_map h) rfl (fun i2 y rest2 a2 hw2 => ?_) fun a2 i2 hw2 => ?_
    · have hy : y ∈ fs := by rw [hw2]; simp
      have oky := (hf y hy).bx
      have l2 : a2.length ≤ 6 := by
        have := congrArg List.length hw2
        rw [List.length_append] at this
        omega
      refine ⟨_, g_name, .inl ⟨a2 ++ [y], by rw [hw2]; simp, ?_⟩⟩
      refine s_lessN (ρ' := [some (.d (stD st)), some (.i k), some (.i one), some (.i other), some (.d (fr gp)), some (.r q1), some (.d (bdD x)), some (.d (bdD y)), none, none, none, none, some (.d (.list (fs.map bdD))), none, none, none, none]) ⟨.inr rfl, .inr rfl, .inr rfl, .inr rfl, .inr rfl, .inr rfl, .inr rfl, .inl rfl, .inl rfl, .inl rfl, .inl rfl, .inl rfl, .inr rfl, .inl rfl, .inl rfl, .inl rfl, .inl rfl, trivial⟩ ?_
      refine s_is (s_app (x := feD (x.nm, y.nm, minusM (posK y k) (posK x k))) (e_tup (a_cons (p_i0 (e_var rfl)) (a_cons (p_i0 (e_var rfl)) (a_cons (e_is (p_call (R := RPlus lminus) (ds := [.d (fr (posK y k)), .d (fr (posK x k))]) (p_cons (p_ixT (ds := [fr y.bx.p0, fr y.bx.p1]) (i := k) (p_i1 (e_var rfl)) (e_var rfl) (pos_at hk)) (p_cons (p_ixT (ds := [fr x.bx.p0, fr x.bx.p1]) (i := k) (p_i1 (e_var rfl)) (e_var rfl) (pos_at hk)) a_nil)) (RPlus.mk ((okp hk oky).ok (k := 20) (by decide) (by decide) (by decide)) ((okp hk okx).ok (k := 20) (by decide) (by decide) (by decide)))) (by rw [lminus_eq (okp hk oky).nrm (okp hk okx).nrm])) a_nil))) (.cons (.cons (.cons .nil))) (show 3 ≤ 100000 by decide)) rfl (by rw [List.length_map, List.length_append, List.length_append]; unfold rowE at lr ⊢; rw [List.length_map]; omega) hq1) ?_
      have : (l ++ a.flatMap (rowE k fs) ++ rowE k (a2 ++ [y]) x).map feD = (l ++ a.flatMap (rowE k fs) ++ rowE k a2 x).map feD ++ [feD (x.nm, y.nm, minusM (posK y k) (posK x k))] := by
        rw [show rowE k (a2 ++ [y]) x = rowE k a2 x ++ [(x.nm, y.nm, minusM (posK y k) (posK x k))] by unfold rowE; rw [List.map_append]; rfl, ← List.append_assoc, List.map_append (l₁ := l ++ a.flatMap (rowE k fs) ++ rowE k a2 x)]
        rfl
      rw [this]
      rfl
    · rw [List.append_nil] at hw2
      subst hw2
      rw [List.flatMap_append, show [x].flatMap (rowE k fs) = rowE k fs x by simp, ← List.append_assoc]
      exact s_next
  rw [List.append_nil] at hw
  subst hw
  have lr : (fs.flatMap (rowE k fs)).length ≤ 36 := by
    have : ∀ a : List Bd, (a.flatMap (rowE k fs)).length = a.length * fs.length := fun a => by
      induction a with
      | nil => simp
      | cons y a ih => rw [List.flatMap_cons, List.length_append, ih, List.length_cons, Nat.succ_mul]; unfold rowE; rw [List.length_map]; omega
    rw [this]
    have : fs.length * fs.length ≤ 6 * 6 := Nat.mul_le_mul (by omega) (by omega)
    omega
  refine s_asgO (es := (limL st k one other gp).map feD) (e_isO (eo_cat (es := [feD (one, other, gp), feD (other, one, minusM (0, 1) gp)]) rfl (e_lstL (a_cons (e_tup (a_cons (e_var rfl) (a_cons (e_var rfl) (a_cons (e_var rfl) a_nil))) (.cons (.cons (.cons .nil))) (show 3 ≤ 100000 by decide)) (a_cons (e_tup (a_cons (e_var rfl) (a_cons (e_var rfl) (a_cons (e_is (p_frac (a := negF gp) (x := 0 - gp.1) (y := gp.2) (p_cons (p_sub (i := 0) (j := gp.1) e_int (p_f1 (a := gp) (e_var rfl))) (p_cons (p_f2 (a := gp) (e_var rfl)) a_nil)) rfl) (by rw [neg_eq sg])) a_nil))) (.cons (.cons (.cons .nil))) (show 3 ≤ 100000 by decide)) a_nil)) (.cons (.cons .nil)) (by show 2 ≤ 100000; decide)) (by rw [List.length_map, List.length_append]; show _ + 2 ≤ 100000; omega)) (by unfold limL eachF; rw [ef, ← h1, List.map_append (l₁ := l ++ fs.flatMap (rowE k fs))]; rfl)) fun q2 hq2 => ?_
  refine s_freeze (i := 5) rfl hq2 ?_
  have lL : (limL st k one other gp).length ≤ 50 := by
    unfold limL eachF
    rw [ef, ← h1, List.length_append, List.length_append]
    show l.length + (fs.flatMap (rowE k fs)).length + 2 ≤ 50
    omega
  have eL := lim_ends hg hk m1 m2 (gp := gp)
  have sL := lim_sm hg hk sg (one := one) (other := other)
  unfold canB
  generalize limL st k one other gp = L at lL eL sL ⊢
  have nd := asc_nodup hg.up
  refine s_newK fun q hq => ?_
  refine s_loopR (α := List Bd) (bs := st.bs) (f := fun _ b => bdD b) (fun i rest a => st.bs = a ++ rest) (fun _ => [some (.d (stD st)), some (.i k), some (.i one), some (.i other), some (.d (fr gp)), some (.d (.list (L.map feD))), none, none, none, none, none, none, some (.d (.list (fs.map bdD))), some (.r q), none, none, none]) (fun a => kJ K q (kvF (a.map (·.nm)) fun _ => fr (0, 1)) I) [] rfl (iw_t (p_i0 (e_var rfl))) (by rw [List.length_map]) (fun i z h => at0_map h) rfl (fun i z rest a hw => ?_) fun a i hw => ?_
  · refine ⟨_, g_name, .inl ⟨a ++ [z], by rw [hw]; simp, ?_⟩⟩
    have nn : z.nm ∉ a.map (·.nm) := fun m => by
      have : (nmsM st).Nodup := nd
      unfold nmsM at this
      rw [hw, List.map_append, List.nodup_append] at this
      exact this.2.2 _ m _ (by simp) rfl
    refine s_lessN (ρ' := [some (.d (stD st)), some (.i k), some (.i one), some (.i other), some (.d (fr gp)), some (.d (.list (L.map feD))), none, none, none, none, none, some (.d (bdD z)), some (.d (.list (fs.map bdD))), some (.r q), none, none, none]) ⟨.inr rfl, .inr rfl, .inr rfl, .inr rfl, .inr rfl, .inr rfl, .inl rfl, .inl rfl, .inl rfl, .inl rfl, .inl rfl, .inl rfl, .inr rfl, .inr rfl, .inl rfl, .inl rfl, .inl rfl, trivial⟩ ?_
    refine s_is (s_putK (x := fr (0, 1)) (p_frac (a := (0, 1)) (x := 0) (y := 1) (p_cons e_int (p_cons e_int a_nil)) rfl) rfl (p_i0 (e_var rfl)) (fun m => ?_) ?_ hq) ?_
    · unfold kvF at m
      rw [List.map_map] at m
      obtain ⟨n, hn, e⟩ := List.mem_map.mp m
      have e : (Sum.inl n : Key) = .inl z.nm := e
      exact nn (by injection e with e; rw [← e]; exact hn)
    · rw [kvF_len, List.length_map]
      have := congrArg List.length hw
      rw [List.length_append] at this
      omega
    · unfold kvF
      rw [List.map_append, List.map_append]
      rfl
  rw [List.append_nil] at hw
  subst hw
  refine s_loop (α := Int → F) (fun i v => (∀ x, Sm 300 (i * 50 * 40000) (v x)) ∧ PM.can (L.map i3D) ((nmsM st).length + 1) (fun _ => 0) = PM.can (L.map i3D) ((nmsM st).length + 1 - i) (iv3 v)) (fun _ => [some (.d (stD st)), some (.i k), some (.i one), some (.i other), some (.d (fr gp)), some (.d (.list (L.map feD))), none, none, none, none, none, none, some (.d (.list (fs.map bdD))), some (.r q), none, none, none]) (fun v => kJ K q (kvF (nmsM st) fun n => fr (v n)) I) (fun _ => (0, 1)) ⟨fun x => sm_c0, by rw [Nat.sub_zero]; congr 1⟩ (iw_r (n := (nmsM st).length + 1) (a_cons (e_is (p_add (i := ((nmsM st).length : Nat)) (j := 1) (e_is (e_lenKM (q := q) (kvs := kvF (nmsM st) fun n => fr (0, 1)) (a_cons (e_var rfl) a_nil) (fun G H z => z.1)) (by rw [kvF_len])) e_int) (by rw [Int.natCast_add]; rfl)) a_nil) (by rw [List.length_map]; omega)) rfl (fun i v hi hw => ?_) fun v hw => ?_
  rotate_left
  · obtain ⟨_, e⟩ := hw
    rw [Nat.sub_self] at e
    rw [e]
    exact s_freezeK (i := 13) rfl hq (p_ret e_bl)
  obtain ⟨hv, ec⟩ := hw
  have lN : (nmsM st).length ≤ 6 := by rw [List.length_map]; exact lb
  refine ⟨_, g_name, ?_⟩
  cases ecalm : PM.calm (L.map i3D) (iv3 v) with
  | true =>
    refine .inr ⟨ret_rt, ?_⟩
    rw [ec, show (nmsM st).length + 1 - i = ((nmsM st).length - i) + 1 by omega, PM.can_succ, if_pos ecalm]
    refine q_asg (d := .b true) e_bl ?_
    refine s_loopR (α := (Int → F) × Bool) (bs := L) (f := fun _ e => feD e) (fun _ rest a => ∃ dn, L = dn ++ rest ∧ a.1 = rndF dn v ∧ a.2 = PM.calm (dn.map i3D) (iv3 v)) (fun a => [some (.d (stD st)), some (.i k), some (.i one), some (.i other), some (.d (fr gp)), some (.d (.list (L.map feD))), none, none, none, none, none, none, some (.d (.list (fs.map bdD))), some (.r q), some (.i (i : Nat)), some (.b a.2), none]) (fun a => kJ K q (kvF (nmsM st) fun n => fr (a.1 n)) I) (v, true) ⟨[], rfl, rfl, rfl⟩ (iw_l (e_var rfl)) (by rw [List.length_map]) (fun i z h => at0_map h) rfl (fun i2 e rest a hw => ?_) fun a i2 hw => ?_
    · obtain ⟨v1, c1⟩ := a
      obtain ⟨dn, ed, e1, e2⟩ := hw
      have e1 : v1 = rndF dn v := e1
      have e2 : c1 = PM.calm (dn.map i3D) (iv3 v) := e2
      have hme : e ∈ L := by rw [ed]; simp
      have sdn : ∀ f ∈ dn, Sm 300 40000 f.2.2 := fun f hf => sL f (by rw [ed]; exact List.mem_append_left _ hf)
      have hv1 : ∀ x, Sm 300 16000000 (v1 x) := fun x => by
        rw [e1]
        have ld := congrArg List.length ed
        rw [List.length_append, List.length_cons] at ld
        exact (rndF_ok sdn (fun x => hv x) x).up (by
          have h1 : i * 50 + dn.length ≤ 400 := by omega
          have := Nat.mul_le_mul_right 40000 h1
          omega)
      have eiv : iv3 v1 = PM.rnd (dn.map i3D) (iv3 v) := by rw [e1]; exact rndF_iv sdn (fun x => hv x)
      obtain ⟨x, y, n0⟩ := e
      have hE := eL _ hme
      have sn : Sm 300 40000 n0 := sL _ hme
      dsimp only at hE
      refine ⟨_, g_tup rfl (g_cons g_name (g_cons g_name (g_cons g_name g_nil))), .inl ⟨(rxF v1 (x, y, n0), c1 && !viF v1 (x, y, n0)), ⟨dn ++ [(x, y, n0)], by rw [ed]; simp, by rw [e1]; unfold rndF; rw [List.foldl_append]; rfl, ?_⟩, ?_⟩⟩
      · show (c1 && !viF v1 (x, y, n0)) = _
        rw [List.map_append, show [(x, y, n0)].map i3D = [i3D (x, y, n0)] from rfl, PM.calm_snoc, ← eiv, vi_iv sn hv1, ← e2]
      have sx := hv1 x
      have okx : PL.Ok 60 (v1 x) := sx.ok (by decide) (by decide) (by decide)
      have oky : PL.Ok 60 (v1 y) := (hv1 y).ok (by decide) (by decide) (by decide)
      have okn : PL.Ok 60 n0 := sn.ok (by decide) (by decide) (by decide)
      have okr : PL.Ok 60 (plusM (v1 x) n0) := (sx.plus sn).ok (by decide) (by decide) (by decide)
      refine s_lessN (ρ' := [some (.d (stD st)), some (.i k), some (.i one), some (.i other), some (.d (fr gp)), some (.d (.list (L.map feD))), some (.i x), some (.i y), none, none, none, none, some (.d (.list (fs.map bdD))), some (.r q), some (.i (i : Nat)), some (.b (c1 && !viF v1 (x, y, n0))), some (.d (fr n0))]) ⟨.inr rfl, .inr rfl, .inr rfl, .inr rfl, .inr rfl, .inr rfl, .inl rfl, .inl rfl, .inl rfl, .inl rfl, .inl rfl, .inl rfl, .inr rfl, .inr rfl, .inr rfl, .inr rfl, .inl rfl, trivial⟩ ?_
      by_cases c : viF v1 (x, y, n0) = true
      · have er : rxF v1 (x, y, n0) = putF v1 y (plusM (v1 x) n0) := if_pos c
        rw [er, c, Bool.not_true, Bool.and_false]
        refine q_ifT (t_B (p_call (R := RLess) (ds := [.d (fr (plusM (v1 x) n0)), .d (fr (v1 y))]) (p_cons (e_is (p_call (R := RPlus lplus) (ds := [.d (fr (v1 x)), .d (fr n0)]) (p_cons (e_kGetM (q := q) (kvs := kvF (nmsM st) fun n => fr (v1 n)) (e_var rfl) (e_var (i := 6) rfl) (fun G H z => z.1) (kvF_at hE.1)) (p_cons (e_var rfl) a_nil)) (RPlus.mk okx okn)) (by rw [lplus_eq sx.nrm sn.nrm])) (p_cons (e_kGetM (q := q) (kvs := kvF (nmsM st) fun n => fr (v1 n)) (e_var rfl) (e_var (i := 7) rfl) (fun G H z => z.1) (kvF_at hE.2)) a_nil)) ⟨_, _, rfl, okr.mono (by decide), oky.mono (by decide), rfl⟩)) c ?_
        refine s_seq (s_putKG (x := fr (plusM (v1 x) n0)) (e_is (p_call (R := RPlus lplus) (ds := [.d (fr (v1 x)), .d (fr n0)]) (p_cons (e_kGetM (q := q) (kvs := kvF (nmsM st) fun n => fr (v1 n)) (e_var rfl) (e_var (i := 6) rfl) (fun G H z => z.1) (kvF_at hE.1)) (p_cons (e_var rfl) a_nil)) (RPlus.mk okx okn)) (by rw [lplus_eq sx.nrm sn.nrm])) rfl (e_var rfl) (by rw [kvF_len]; omega) hq) ?_
        rw [kvF_put (f := fun n => fr (v1 n)) (g := fun n => fr (putF v1 y (plusM (v1 x) n0) n)) hE.2 (fun m => by unfold putF; split <;> rfl)]
        exact p_asg e_bl
      · have er : rxF v1 (x, y, n0) = v1 := if_neg c
        have c := Bool.eq_false_iff.mpr c
        rw [er, c, Bool.not_false, Bool.and_true]
        exact q_ifF (t_B (p_call (R := RLess) (ds := [.d (fr (plusM (v1 x) n0)), .d (fr (v1 y))]) (p_cons (e_is (p_call (R := RPlus lplus) (ds := [.d (fr (v1 x)), .d (fr n0)]) (p_cons (e_kGetM (q := q) (kvs := kvF (nmsM st) fun n => fr (v1 n)) (e_var rfl) (e_var (i := 6) rfl) (fun G H z => z.1) (kvF_at hE.1)) (p_cons (e_var rfl) a_nil)) (RPlus.mk okx okn)) (by rw [lplus_eq sx.nrm sn.nrm])) (p_cons (e_kGetM (q := q) (kvs := kvF (nmsM st) fun n => fr (v1 n)) (e_var rfl) (e_var (i := 7) rfl) (fun G H z => z.1) (kvF_at hE.2)) a_nil)) ⟨_, _, rfl, okr.mono (by decide), oky.mono (by decide), rfl⟩)) c s_next
    · obtain ⟨v1, c1⟩ := a
      obtain ⟨dn, ed, e1, e2⟩ := hw
      rw [List.append_nil] at ed
      subst ed
      obtain rfl : v1 = rndF L v := e1
      replace e2 : c1 = PM.calm (L.map i3D) (iv3 v) := e2
      rw [ecalm] at e2
      subst e2
      exact q_ifT (p_test (e_var rfl)) rfl (s_freezeK (i := 13) rfl hq (p_ret e_bl))
  | false =>
    refine .inl ⟨rndF L v, ⟨?_, ?_⟩, ?_⟩
    · intro x
      exact (rndF_ok sL (fun x => hv x) x).up (Nat.mul_le_mul_right _ (by omega))
    · rw [ec, show (nmsM st).length + 1 - i = ((nmsM st).length - i) + 1 by omega, PM.can_succ, if_neg (by rw [ecalm]; decide), rndF_iv sL (fun x => hv x)]
      congr 1
      omega
    · refine q_asg (d := .b true) e_bl ?_
      refine s_loopR (α := (Int → F) × Bool) (bs := L) (f := fun _ e => feD e) (fun _ rest a => ∃ dn, L = dn ++ rest ∧ a.1 = rndF dn v ∧ a.2 = PM.calm (dn.map i3D) (iv3 v)) (fun a => [some (.d (stD st)), some (.i k), some (.i one), some (.i other), some (.d (fr gp)), some (.d (.list (L.map feD))), none, none, none, none, none, none, some (.d (.list (fs.map bdD))), some (.r q), some (.i (i : Nat)), some (.b a.2), none]) (fun a => kJ K q (kvF (nmsM st) fun n => fr (a.1 n)) I) (v, true) ⟨[], rfl, rfl, rfl⟩ (iw_l (e_var rfl)) (by rw [List.length_map]) (fun i z h => at0_map h) rfl (fun i2 e rest a hw => ?_) fun a i2 hw => ?_
      · obtain ⟨v1, c1⟩ := a
        obtain ⟨dn, ed, e1, e2⟩ := hw
        have e1 : v1 = rndF dn v := e1
        have e2 : c1 = PM.calm (dn.map i3D) (iv3 v) := e2
        have hme : e ∈ L := by rw [ed]; simp
        have sdn : ∀ f ∈ dn, Sm 300 40000 f.2.2 := fun f hf => sL f (by rw [ed]; exact List.mem_append_left _ hf)
        have hv1 : ∀ x, Sm 300 16000000 (v1 x) := fun x => by
          rw [e1]
          have ld := congrArg List.length ed
          rw [List.length_append, List.length_cons] at ld
          exact (rndF_ok sdn (fun x => hv x) x).up (by
            have h1 : i * 50 + dn.length ≤ 400 := by omega
            have := Nat.mul_le_mul_right 40000 h1
            omega)
        have eiv : iv3 v1 = PM.rnd (dn.map i3D) (iv3 v) := by rw [e1]; exact rndF_iv sdn (fun x => hv x)
        obtain ⟨x, y, n0⟩ := e
        have hE := eL _ hme
        have sn : Sm 300 40000 n0 := sL _ hme
        dsimp only at hE
        refine ⟨_, g_tup rfl (g_cons g_name (g_cons g_name (g_cons g_name g_nil))), .inl ⟨(rxF v1 (x, y, n0), c1 && !viF v1 (x, y, n0)), ⟨dn ++ [(x, y, n0)], by rw [ed]; simp, by rw [e1]; unfold rndF; rw [List.foldl_append]; rfl, ?_⟩, ?_⟩⟩
        · show (c1 && !viF v1 (x, y, n0)) = _
          rw [List.map_append, show [(x, y, n0)].map i3D = [i3D (x, y, n0)] from rfl, PM.calm_snoc, ← eiv, vi_iv sn hv1, ← e2]
        have sx := hv1 x
        have okx : PL.Ok 60 (v1 x) := sx.ok (by decide) (by decide) (by decide)
        have oky : PL.Ok 60 (v1 y) := (hv1 y).ok (by decide) (by decide) (by decide)
        have okn : PL.Ok 60 n0 := sn.ok (by decide) (by decide) (by decide)
        have okr : PL.Ok 60 (plusM (v1 x) n0) := (sx.plus sn).ok (by decide) (by decide) (by decide)
        refine s_lessN (ρ' := [some (.d (stD st)), some (.i k), some (.i one), some (.i other), some (.d (fr gp)), some (.d (.list (L.map feD))), some (.i x), some (.i y), none, none, none, none, some (.d (.list (fs.map bdD))), some (.r q), some (.i (i : Nat)), some (.b (c1 && !viF v1 (x, y, n0))), some (.d (fr n0))]) ⟨.inr rfl, .inr rfl, .inr rfl, .inr rfl, .inr rfl, .inr rfl, .inl rfl, .inl rfl, .inl rfl, .inl rfl, .inl rfl, .inl rfl, .inr rfl, .inr rfl, .inr rfl, .inr rfl, .inl rfl, trivial⟩ ?_
        by_cases c : viF v1 (x, y, n0) = true
        · have er : rxF v1 (x, y, n0) = putF v1 y (plusM (v1 x) n0) := if_pos c
          rw [er, c, Bool.not_true, Bool.and_false]
          refine q_ifT (t_B (p_call (R := RLess) (ds := [.d (fr (plusM (v1 x) n0)), .d (fr (v1 y))]) (p_cons (e_is (p_call (R := RPlus lplus) (ds := [.d (fr (v1 x)), .d (fr n0)]) (p_cons (e_kGetM (q := q) (kvs := kvF (nmsM st) fun n => fr (v1 n)) (e_var rfl) (e_var (i := 6) rfl) (fun G H z => z.1) (kvF_at hE.1)) (p_cons (e_var rfl) a_nil)) (RPlus.mk okx okn)) (by rw [lplus_eq sx.nrm sn.nrm])) (p_cons (e_kGetM (q := q) (kvs := kvF (nmsM st) fun n => fr (v1 n)) (e_var rfl) (e_var (i := 7) rfl) (fun G H z => z.1) (kvF_at hE.2)) a_nil)) ⟨_, _, rfl, okr.mono (by decide), oky.mono (by decide), rfl⟩)) c ?_
          refine s_seq (s_putKG (x := fr (plusM (v1 x) n0)) (e_is (p_call (R := RPlus lplus) (ds := [.d (fr (v1 x)), .d (fr n0)]) (p_cons (e_kGetM (q := q) (kvs := kvF (nmsM st) fun n => fr (v1 n)) (e_var rfl) (e_var (i := 6) rfl) (fun G H z => z.1) (kvF_at hE.1)) (p_cons (e_var rfl) a_nil)) (RPlus.mk okx okn)) (by rw [lplus_eq sx.nrm sn.nrm])) rfl (e_var rfl) (by rw [kvF_len]; omega) hq) ?_
          rw [kvF_put (f := fun n => fr (v1 n)) (g := fun n => fr (putF v1 y (plusM (v1 x) n0) n)) hE.2 (fun m => by unfold putF; split <;> rfl)]
          exact p_asg e_bl
        · have er : rxF v1 (x, y, n0) = v1 := if_neg c
          have c := Bool.eq_false_iff.mpr c
          rw [er, c, Bool.not_false, Bool.and_true]
          exact q_ifF (t_B (p_call (R := RLess) (ds := [.d (fr (plusM (v1 x) n0)), .d (fr (v1 y))]) (p_cons (e_is (p_call (R := RPlus lplus) (ds := [.d (fr (v1 x)), .d (fr n0)]) (p_cons (e_kGetM (q := q) (kvs := kvF (nmsM st) fun n => fr (v1 n)) (e_var rfl) (e_var (i := 6) rfl) (fun G H z => z.1) (kvF_at hE.1)) (p_cons (e_var rfl) a_nil)) (RPlus.mk okx okn)) (by rw [lplus_eq sx.nrm sn.nrm])) (p_cons (e_kGetM (q := q) (kvs := kvF (nmsM st) fun n => fr (v1 n)) (e_var rfl) (e_var (i := 7) rfl) (fun G H z => z.1) (kvF_at hE.2)) a_nil)) ⟨_, _, rfl, okr.mono (by decide), oky.mono (by decide), rfl⟩)) c s_next
      · obtain ⟨v1, c1⟩ := a
        obtain ⟨dn, ed, e1, e2⟩ := hw
        rw [List.append_nil] at ed
        subst ed
        obtain rfl : v1 = rndF L v := e1
        replace e2 : c1 = PM.calm (L.map i3D) (iv3 v) := e2
        rw [ecalm] at e2
        subst e2
        refine s_lessN (ρ' := [some (.d (stD st)), some (.i k), some (.i one), some (.i other), some (.d (fr gp)), some (.d (.list (L.map feD))), none, none, none, none, none, none, some (.d (.list (fs.map bdD))), some (.r q), some (.i (i : Nat)), some (.b false), none]) ⟨.inr rfl, .inr rfl, .inr rfl, .inr rfl, .inr rfl, .inr rfl, .inl rfl, .inl rfl, .inl rfl, .inl rfl, .inl rfl, .inl rfl, .inr rfl, .inr rfl, .inl rfl, .inl rfl, .inl rfl, trivial⟩ ?_
        exact q_ifF (p_test (e_var rfl)) rfl s_next
theorem fok_check_state (Tp : Top K mg base) : FnOk P w K mg base (L2.CX P w) 5 Tp.f_check_state Tp.d_check_state ["state"] (spXT K Tp.tabs (RChk Tp.c_TooLarge Tp.c_BodyError Tp.c_OverlapError Tp.c_JointError)) := by
  have G_check_bodies := fok_check_bodies (P := P) (w := w) (base := base) Tp
  have G_check_overlaps := fok_check_overlaps (P := P) (w := w) (base := base) Tp
  have G_places_of := fok_places_of (P := P) (w := w) (base := base) Tp
  have G_check_joint := fok_check_joint (P := P) (w := w) (base := base) Tp
  refine Tp.F_check_state.okX sc_check_state (fun vs H Q E h => len_X (fun _ _ ⟨_, e, _⟩ => by rw [e]; rfl) h) (fun cdv A outer s H vs Q E hr h => ?_)
  refine ⟨_, (pss_cons (ps_asg (pv 0) (pg_tup rfl (pgs_cons (pg_name (i := 1) sc_check_state.nd rfl (.inl rfl)) (pgs_cons (pg_name (i := 2) sc_check_state.nd rfl (.inl rfl)) (pgs_cons (pg_name (i := 3) sc_check_state.nd rfl (.inl rfl)) pgs_nil)))))
      (pss_cons (ps_if (PW.pt (pw_or (pt_cmpR op_gt (pe_callB call_len_seq (by rfl) Tp.n_len (by decide +kernel) (pa_cons (pv 1) pa_nil)) (pe_glob (v := .int 24) (by rfl) Tp.gk_BODY_LIMIT ⟨_, rfl⟩) (nomark _)) (pw_or1 (pt_cmpR op_gt (pe_callB call_len_seq (by rfl) Tp.n_len (by decide +kernel) (pa_cons (pv 2) pa_nil)) (pe_glob (v := .int 24) (by rfl) Tp.gk_JOINT_LIMIT ⟨_, rfl⟩) (nomark _))))) (pss_one (ps_raise rfl (takes_of rfl rfl rfl rfl) (pmk_own PySem.F.excBase_ValueError Tp.xc_TooLarge Tp.gc_TooLarge Tp.kc_TooLarge (raises_own Tp.bc_TooLarge Tp.tc_TooLarge) rfl))) pss_nil)
      (pss_cons (ps_expr (pe_call G_check_bodies (hr.mono (by decide)) (by rfl) Tp.g_check_bodies Tp.F_check_bodies.kp Tp.b_check_bodies .nil (passes_call (takes_of rfl rfl rfl rfl) (fun _ _ _ _ z => z)) (pa_cons (pv 1) pa_nil)))
      (pss_cons (ps_expr (pe_call G_check_overlaps (hr.mono (by decide)) (by rfl) Tp.g_check_overlaps Tp.F_check_overlaps.kp Tp.b_check_overlaps .nil (passes_call (takes_of rfl rfl rfl rfl) (fun _ _ _ _ z => z)) (pa_cons (pv 1) pa_nil)))
      (pss_cons (ps_set (i := 4) sc_check_state.nd rfl (.inl rfl) (pe_call G_places_of (hr.mono (by decide)) (by rfl) Tp.g_places_of Tp.F_places_of.kp Tp.b_places_of .nil pass0 (pa_cons (pv 1) pa_nil)))
      (pss_one (ps_for (passes_of rfl) rfl (pi_tup (pv 2)) (pg_name (i := 5) sc_check_state.nd rfl (.inl rfl)) (pss_one (ps_expr (pe_call G_check_joint (hr.mono (by decide)) (by rfl) Tp.g_check_joint Tp.F_check_joint.kp Tp.b_check_joint .nil (passes_call (takes_of rfl rfl rfl rfl) (fun _ _ _ _ z => z)) (pa_cons (pv 4) (pa_cons (pv 5) pa_nil)))))))))))), body_XNT ?_ h⟩
  refine fun ds r hr I hT hx => ?_
  obtain ⟨st, rfl, hs, hr⟩ := hr
  walk_at "norm"
  have el : (decide (24 < (((st.bs.map bdD).length : Nat) : Int)) || decide (24 < (((st.js.map jtD).length : Nat) : Int))) = largeM st := by rw [List.length_map, List.length_map]; rfl
  rcases hr with ⟨h0, rfl⟩ | ⟨h0, rfl⟩ | ⟨h0, rfl⟩ | ⟨h0, rfl⟩ | ⟨h0, rfl⟩
  · obtain ⟨h1, h2, h3, h4⟩ := chk_0 h0
    refine .inl ⟨rfl, [some (.d (stD st)), some (.t (st.bs.map bdD)), some (.t (st.js.map jtD)), some (.d (vcd st.u0 st.u1)), some (.k (plcM st.bs)), none], s_seq (s_asgG (e_var rfl) (g_tup rfl (g_cons g_name (g_cons g_name (g_cons g_name g_nil))))) ?_⟩
    refine q_skip (t_or (p_test (p_gt (i := ((st.bs.map bdD).length : Nat)) (j := 24) (p_lenT (p_cons (e_var rfl) a_nil)) e_int)) fun _ => p_test (p_gt (i := ((st.js.map jtD).length : Nat)) (j := 24) (p_lenT (p_cons (e_var rfl) a_nil)) e_int)) (by rw [el]; exact h1) ?_
    refine s_seq (s_drop (e_callX (R := RBods Tp.c_BodyError) (ds := [.t (st.bs.map bdD)]) (by walk_at "ev") ⟨st.bs, rfl, hs.bs, .inl ⟨h2, rfl⟩⟩)) ?_
    refine s_seq (s_drop (e_callX (tabs := Tp.tabs) (R := ROvl Tp.c_OverlapError) (ds := [.t (st.bs.map bdD)]) (by walk_at "ev") ⟨st.bs, rfl, hs.bs, hs.len, .inl ⟨h3, rfl⟩⟩)) ?_
    refine q_asg (d := .k (plcM st.bs)) (p_call (R := RPlaces) (ds := [.t (st.bs.map bdD)]) (by walk_at "ev") ⟨st.bs, rfl, (badB_asc h2).2, hs.len, rfl⟩) ?_
    refine s_loopR1 (α := Unit) (bs := st.js) (f := fun _ z => jtD z) (fun _ rest _ => rest.any (jbad st.bs) = false ∧ ∀ z ∈ rest, JtOk z) (fun _ => [some (.d (stD st)), some (.t (st.bs.map bdD)), some (.t (st.js.map jtD)), some (.d (vcd st.u0 st.u1)), some (.k (plcM st.bs)), none]) (fun _ => I) () ⟨h4, hs.js⟩ (iw_t (e_var rfl)) (by rw [List.length_map]) (fun i z h => at0_map h) rfl (fun i z rest _ hw => ?_) (fun _ j hw => s_next)
    have hz := hw.2 z List.mem_cons_self
    have h5 : (jbad st.bs z || rest.any (jbad st.bs)) = false := hw.1
    rw [Bool.or_eq_false_iff] at h5
    refine ⟨_, g_name, .inl ⟨(), ⟨h5.2, fun y hy => hw.2 y (List.mem_cons_of_mem _ hy)⟩, ?_⟩⟩
    refine s_lessN (ρ' := [some (.d (stD st)), some (.t (st.bs.map bdD)), some (.t (st.js.map jtD)), some (.d (vcd st.u0 st.u1)), some (.k (plcM st.bs)), some (.d (jtD z))]) ⟨.inr rfl, .inr rfl, .inr rfl, .inr rfl, .inr rfl, .inl rfl, trivial⟩ ?_
    exact s_drop (e_callX (R := RJoint Tp.c_JointError) (ds := [.k (plcM st.bs), .d (jtD z)]) (by walk_at "ev") ⟨st.bs, z, rfl, hs.bs, hz, .inl ⟨h5.1, rfl⟩⟩)
  · refine .inr ⟨_, rfl, fun kk => s_any (s_seq (s_asgG (e_var rfl) (g_tup rfl (g_cons g_name (g_cons g_name (g_cons g_name g_nil))))) ?_)⟩
    exact s_stopR ret_fin (q_ifT (t_or (p_test (p_gt (i := ((st.bs.map bdD).length : Nat)) (j := 24) (p_lenT (p_cons (e_var rfl) a_nil)) e_int)) fun _ => p_test (p_gt (i := ((st.js.map jtD).length : Nat)) (j := 24) (p_lenT (p_cons (e_var rfl) a_nil)) e_int)) (by rw [el]; exact chk_1 h0) (s_raise' fun G H σ D gh io => hx _ rfl G H io))
  · obtain ⟨h1, h2⟩ := chk_2 h0
    refine .inr ⟨_, rfl, fun kk => s_any (s_seq (s_asgG (e_var rfl) (g_tup rfl (g_cons g_name (g_cons g_name (g_cons g_name g_nil))))) ?_)⟩
    refine q_skip (t_or (p_test (p_gt (i := ((st.bs.map bdD).length : Nat)) (j := 24) (p_lenT (p_cons (e_var rfl) a_nil)) e_int)) fun _ => p_test (p_gt (i := ((st.js.map jtD).length : Nat)) (j := 24) (p_lenT (p_cons (e_var rfl) a_nil)) e_int)) (by rw [el]; exact h1) ?_
    exact s_stopR ret_fin (s_dropE (e_callE (R := RBods Tp.c_BodyError) (ds := [.t (st.bs.map bdD)]) (L := .no) (d := .d .none) (by walk_at "ev") ⟨st.bs, rfl, hs.bs, .inr ⟨h2, rfl⟩⟩ fun G H io => hx _ rfl G H io) fun _ _ z => z)
  · obtain ⟨h1, h2, h3⟩ := chk_3 h0
    refine .inr ⟨_, rfl, fun kk => s_any (s_seq (s_asgG (e_var rfl) (g_tup rfl (g_cons g_name (g_cons g_name (g_cons g_name g_nil))))) ?_)⟩
    refine q_skip (t_or (p_test (p_gt (i := ((st.bs.map bdD).length : Nat)) (j := 24) (p_lenT (p_cons (e_var rfl) a_nil)) e_int)) fun _ => p_test (p_gt (i := ((st.js.map jtD).length : Nat)) (j := 24) (p_lenT (p_cons (e_var rfl) a_nil)) e_int)) (by rw [el]; exact h1) ?_
    refine s_seq (s_drop (e_callX (R := RBods Tp.c_BodyError) (ds := [.t (st.bs.map bdD)]) (by walk_at "ev") ⟨st.bs, rfl, hs.bs, .inl ⟨h2, rfl⟩⟩)) ?_
    exact s_stopR ret_fin (s_dropE (e_callE (tabs := Tp.tabs) (R := ROvl Tp.c_OverlapError) (ds := [.t (st.bs.map bdD)]) (L := .no) (d := .d .none) (by walk_at "ev") ⟨st.bs, rfl, hs.bs, hs.len, .inr ⟨h3, rfl⟩⟩ fun G H io => hx _ rfl G H io) fun _ _ z => z)
  · obtain ⟨h1, h2, h3, h4⟩ := chk_4 h0
    refine .inr ⟨_, rfl, fun kk => s_any (s_seq (s_asgG (e_var rfl) (g_tup rfl (g_cons g_name (g_cons g_name (g_cons g_name g_nil))))) ?_)⟩
    refine q_skip (t_or (p_test (p_gt (i := ((st.bs.map bdD).length : Nat)) (j := 24) (p_lenT (p_cons (e_var rfl) a_nil)) e_int)) fun _ => p_test (p_gt (i := ((st.js.map jtD).length : Nat)) (j := 24) (p_lenT (p_cons (e_var rfl) a_nil)) e_int)) (by rw [el]; exact h1) ?_
    refine s_seq (s_drop (e_callX (R := RBods Tp.c_BodyError) (ds := [.t (st.bs.map bdD)]) (by walk_at "ev") ⟨st.bs, rfl, hs.bs, .inl ⟨h2, rfl⟩⟩)) ?_
    refine s_seq (s_drop (e_callX (tabs := Tp.tabs) (R := ROvl Tp.c_OverlapError) (ds := [.t (st.bs.map bdD)]) (by walk_at "ev") ⟨st.bs, rfl, hs.bs, hs.len, .inl ⟨h3, rfl⟩⟩)) ?_
    refine q_asg (d := .k (plcM st.bs)) (p_call (R := RPlaces) (ds := [.t (st.bs.map bdD)]) (by walk_at "ev") ⟨st.bs, rfl, (badB_asc h2).2, hs.len, rfl⟩) ?_
    refine s_loopR1 (α := Unit) (bs := st.js) (f := fun _ z => jtD z) (fun _ rest _ => rest.any (jbad st.bs) = true ∧ ∀ z ∈ rest, JtOk z) (fun _ => [some (.d (stD st)), some (.t (st.bs.map bdD)), some (.t (st.js.map jtD)), some (.d (vcd st.u0 st.u1)), some (.k (plcM st.bs)), none]) (fun _ => I) () ⟨h4, hs.js⟩ (iw_t (e_var rfl)) (by rw [List.length_map]) (fun i z h => at0_map h) rfl (fun i z rest _ hw => ?_) (fun _ j hw => (by cases hw.1))
    have hz := hw.2 z List.mem_cons_self
    have h5 : (jbad st.bs z || rest.any (jbad st.bs)) = true := hw.1
    by_cases c : jbad st.bs z = true
    · exact ⟨_, g_name, .inr ⟨ret_fin, s_dropE (e_callE (R := RJoint Tp.c_JointError) (ds := [.k (plcM st.bs), .d (jtD z)]) (L := .no) (d := .d .none) (by walk_at "ev") ⟨st.bs, z, rfl, hs.bs, hz, .inr ⟨c, rfl⟩⟩ fun G H io => hx _ rfl G H io) fun _ _ z => z⟩⟩
    · have c := Bool.eq_false_iff.mpr c
      rw [c, Bool.false_or] at h5
      have h5 := And.intro c h5
      refine ⟨_, g_name, .inl ⟨(), ⟨h5.2, fun y hy => hw.2 y (List.mem_cons_of_mem _ hy)⟩, ?_⟩⟩
      refine s_lessN (ρ' := [some (.d (stD st)), some (.t (st.bs.map bdD)), some (.t (st.js.map jtD)), some (.d (vcd st.u0 st.u1)), some (.k (plcM st.bs)), some (.d (jtD z))]) ⟨.inr rfl, .inr rfl, .inr rfl, .inr rfl, .inr rfl, .inl rfl, trivial⟩ ?_
      exact s_drop (e_callX (R := RJoint Tp.c_JointError) (ds := [.k (plcM st.bs), .d (jtD z)]) (by walk_at "ev") ⟨st.bs, z, rfl, hs.bs, hz, .inl ⟨h5.1, rfl⟩⟩)
theorem fok_law_gap (Tp : Top K mg base) : FnOk P w K mg base CX0 5 Tp.f_law_gap Tp.d_law_gap ["a", "b", "k"] (spP K RGap) := by
  have G_law_max := fok_law_max (P := P) (w := w) (base := base) Tp
  have G_law_minus := fok_law_minus (P := P) (w := w) (base := base) Tp
  have G_law_high := fok_law_high (P := P) (w := w) (base := base) Tp
  refine Tp.F_law_gap.ok sc_law_gap (fun vs H Q E h => len_P (fun _ _ ⟨_, _, _, e, _⟩ => by rw [e]; rfl) h) (fun cdv A outer s H vs Q E hr h => ?_)
  refine ⟨_, (pss_one (ps_ret (pe_call G_law_max (hr.mono (by decide)) (by rfl) Tp.g_law_max Tp.F_law_max.kp Tp.b_law_max .nil pass0 (pa_cons (pe_call G_law_minus (hr.mono (by decide)) (by rfl) Tp.g_law_minus Tp.F_law_minus.kp Tp.b_law_minus .nil pass0 (pa_cons (pe_ix (r := rIxT K) ix_tup (pe_ix (r := rIxT K) ix_tup (pv 1) pe_int (fun _ _ => rfl)) (pv 2) (fun _ _ => rfl)) (pa_cons (pe_call G_law_high (hr.mono (by decide)) (by rfl) Tp.g_law_high Tp.F_law_high.kp Tp.b_law_high .nil pass0 (pa_cons (pv 0) (pa_cons (pv 2) pa_nil))) pa_nil))) (pa_cons (pe_call G_law_minus (hr.mono (by decide)) (by rfl) Tp.g_law_minus Tp.F_law_minus.kp Tp.b_law_minus .nil pass0 (pa_cons (pe_ix (r := rIxT K) ix_tup (pe_ix (r := rIxT K) ix_tup (pv 0) pe_int (fun _ _ => rfl)) (pv 2) (fun _ _ => rfl)) (pa_cons (pe_call G_law_high (hr.mono (by decide)) (by rfl) Tp.g_law_high Tp.F_law_high.kp Tp.b_law_high .nil pass0 (pa_cons (pv 1) (pa_cons (pv 2) pa_nil))) pa_nil))) pa_nil))))), body_P ?_ h⟩
  refine fun ds d r I => ?_
  obtain ⟨a, b, k, rfl, hk, ha, hb, rfl⟩ := r
  walk_at "norm"
  rcases hk with rfl | rfl
  · have n1 := PL.ok_plus ha.p0 ha.s0
    have n2 := PL.ok_plus hb.p0 hb.s0
    have n3 := PL.ok_minus hb.p0 n1
    have n4 := PL.ok_minus ha.p0 n2
    unfold gapM
    rw [lplus_eq ha.p0.nrm ha.s0.nrm, lplus_eq hb.p0.nrm hb.s0.nrm, lminus_eq hb.p0.nrm n1.nrm, lminus_eq ha.p0.nrm n2.nrm]
    refine p_ret (p_call (R := RMax) (ds := [.d (fr (minusM b.p0 (plusM a.p0 a.s0))), .d (fr (minusM a.p0 (plusM b.p0 b.s0)))]) (p_cons (e_is (p_call (R := RPlus lminus) (ds := [.d (fr b.p0), .d (fr (plusM a.p0 a.s0))]) (p_cons (p_ixT (ds := [fr b.p0, fr b.p1]) (i := 0) (p_i0 (e_var rfl)) (e_var rfl) rfl) (p_cons (p_call (R := RHigh) (ds := [.d (bxd a), .i 0]) (by walk_at "ev") ⟨a, 0, rfl, .inl rfl, ha.p0.mono (by decide), ha.p1.mono (by decide), ha.s0.mono (by decide), ha.s1.mono (by decide), rfl⟩) a_nil)) (RPlus.mk hb.p0 n1)) (by rw [lminus_eq hb.p0.nrm n1.nrm])) (p_cons (e_is (p_call (R := RPlus lminus) (ds := [.d (fr a.p0), .d (fr (plusM b.p0 b.s0))]) (p_cons (p_ixT (ds := [fr a.p0, fr a.p1]) (i := 0) (p_i0 (e_var rfl)) (e_var rfl) rfl) (p_cons (p_call (R := RHigh) (ds := [.d (bxd b), .i 0]) (by walk_at "ev") ⟨b, 0, rfl, .inl rfl, hb.p0.mono (by decide), hb.p1.mono (by decide), hb.s0.mono (by decide), hb.s1.mono (by decide), rfl⟩) a_nil)) (RPlus.mk ha.p0 n2)) (by rw [lminus_eq ha.p0.nrm n2.nrm])) a_nil)) ⟨_, _, rfl, n3.mono (by decide), n4.mono (by decide), rfl⟩)
  · have n1 := PL.ok_plus ha.p1 ha.s1
    have n2 := PL.ok_plus hb.p1 hb.s1
    have n3 := PL.ok_minus hb.p1 n1
    have n4 := PL.ok_minus ha.p1 n2
    unfold gapM
    rw [lplus_eq ha.p1.nrm ha.s1.nrm, lplus_eq hb.p1.nrm hb.s1.nrm, lminus_eq hb.p1.nrm n1.nrm, lminus_eq ha.p1.nrm n2.nrm]
    refine p_ret (p_call (R := RMax) (ds := [.d (fr (minusM b.p1 (plusM a.p1 a.s1))), .d (fr (minusM a.p1 (plusM b.p1 b.s1)))]) (p_cons (e_is (p_call (R := RPlus lminus) (ds := [.d (fr b.p1), .d (fr (plusM a.p1 a.s1))]) (p_cons (p_ixT (ds := [fr b.p0, fr b.p1]) (i := 1) (p_i0 (e_var rfl)) (e_var rfl) rfl) (p_cons (p_call (R := RHigh) (ds := [.d (bxd a), .i 1]) (by walk_at "ev") ⟨a, 1, rfl, .inr rfl, ha.p0.mono (by decide), ha.p1.mono (by decide), ha.s0.mono (by decide), ha.s1.mono (by decide), rfl⟩) a_nil)) (RPlus.mk hb.p1 n1)) (by rw [lminus_eq hb.p1.nrm n1.nrm])) (p_cons (e_is (p_call (R := RPlus lminus) (ds := [.d (fr a.p1), .d (fr (plusM b.p1 b.s1))]) (p_cons (p_ixT (ds := [fr a.p0, fr a.p1]) (i := 1) (p_i0 (e_var rfl)) (e_var rfl) rfl) (p_cons (p_call (R := RHigh) (ds := [.d (bxd b), .i 1]) (by walk_at "ev") ⟨b, 1, rfl, .inr rfl, hb.p0.mono (by decide), hb.p1.mono (by decide), hb.s0.mono (by decide), hb.s1.mono (by decide), rfl⟩) a_nil)) (RPlus.mk ha.p1 n2)) (by rw [lminus_eq ha.p1.nrm n2.nrm])) a_nil)) ⟨_, _, rfl, n3.mono (by decide), n4.mono (by decide), rfl⟩)
theorem fok_law_beside (Tp : Top K mg base) : FnOk P w K mg base CX0 5 Tp.f_law_beside Tp.d_law_beside ["d", "box", "size"] (spW K RBesideG) := by
  have G_law_take := fok_law_take (P := P) (w := w) (base := base) Tp
  have G_law_plus := fok_law_plus (P := P) (w := w) (base := base) Tp
  have G_law_high := fok_law_high (P := P) (w := w) (base := base) Tp
  have G_law_minus := fok_law_minus (P := P) (w := w) (base := base) Tp
  have G_law_part := fok_law_part (P := P) (w := w) (base := base) Tp
  refine Tp.F_law_beside.ok sc_law_beside (fun vs H Q E h => len_W (fun _ _ _ _ ⟨_, _, _, _, e, _⟩ => by rw [e]; rfl) h) (fun cdv A outer s H vs Q E hr h => ?_)
  refine ⟨_, (pss_cons (ps_set (i := 3) sc_law_beside.nd rfl (.inl rfl) (pe_call G_law_take (hr.mono (by decide)) (by rfl) Tp.g_law_take Tp.F_law_take.kp Tp.b_law_take .nil pass0 (pa_cons (pv 0) (pa_cons pe_int pa_nil))))
      (pss_cons (ps_set (i := 4) sc_law_beside.nd rfl (.inl rfl) (pe_lst (pa_cons (pe_call G_law_plus (hr.mono (by decide)) (by rfl) Tp.g_law_plus Tp.F_law_plus.kp Tp.b_law_plus .nil pass0 (pa_cons (pe_ix (r := rIxT K) ix_tup (pe_ix (r := rIxT K) ix_tup (pv 1) pe_int (fun _ _ => rfl)) pe_int (fun _ _ => rfl)) (pa_cons (pe_call G_law_part (hr.mono (by decide)) (by rfl) Tp.g_law_part Tp.F_law_part.kp Tp.b_law_part .nil pass0 (pa_cons (pv 0) (pa_cons pe_int pa_nil))) pa_nil))) (pa_cons (pe_call G_law_plus (hr.mono (by decide)) (by rfl) Tp.g_law_plus Tp.F_law_plus.kp Tp.b_law_plus .nil pass0 (pa_cons (pe_ix (r := rIxT K) ix_tup (pe_ix (r := rIxT K) ix_tup (pv 1) pe_int (fun _ _ => rfl)) pe_int (fun _ _ => rfl)) (pa_cons (pe_call G_law_part (hr.mono (by decide)) (by rfl) Tp.g_law_part Tp.F_law_part.kp Tp.b_law_part .nil pass0 (pa_cons (pv 0) (pa_cons pe_int pa_nil))) pa_nil))) pa_nil))))
      (pss_cons (ps_asg (pe_ifExp (pt_cmpR op_eq (pe_call G_law_take (hr.mono (by decide)) (by rfl) Tp.g_law_take Tp.F_law_take.kp Tp.b_law_take .nil pass0 (pa_cons (pv 0) (pa_cons pe_int pa_nil))) pe_int (nomark _)) (pe_call G_law_high (hr.mono (by decide)) (by rfl) Tp.g_law_high Tp.F_law_high.kp Tp.b_law_high .nil pass0 (pa_cons (pv 1) (pa_cons (pv 3) pa_nil))) (pe_call G_law_minus (hr.mono (by decide)) (by rfl) Tp.g_law_minus Tp.F_law_minus.kp Tp.b_law_minus .nil pass0 (pa_cons (pe_ix (r := rIxT K) ix_tup (pe_ix (r := rIxT K) ix_tup (pv 1) pe_int (fun _ _ => rfl)) (pv 3) (fun _ _ => rfl)) (pa_cons (pe_ix (r := rIxT K) ix_tup (pv 2) (pv 3) (fun _ _ => rfl)) pa_nil)))) (pg_sub (pv 4) (pv 3) set_list))
      (pss_cons (ps_if (pt_cmpR op_eq (pe_call G_law_take (hr.mono (by decide)) (by rfl) Tp.g_law_take Tp.F_law_take.kp Tp.b_law_take .nil pass0 (pa_cons (pv 0) (pa_cons pe_int pa_nil))) pe_int (nomark _)) (pss_one (ps_asg (pe_ix (r := rIxT K) ix_tup (pe_ix (r := rIxT K) ix_tup (pv 1) pe_int (fun _ _ => rfl)) (pe_op op_sub pe_int (pv 3)) (fun _ _ => rfl)) (pg_sub (pv 4) (pe_op op_sub pe_int (pv 3)) set_list))) pss_nil)
      (pss_one (ps_ret (pe_tup (pa_cons (pe_ix (r := rIxL K) ix_list (pv 4) pe_int (fun _ _ => rfl)) (pa_cons (pe_ix (r := rIxL K) ix_list (pv 4) pe_int (fun _ _ => rfl)) pa_nil))))))))), body_W ?_ h⟩
  refine fun ds C d C' r p J hf => ?_
  obtain ⟨n, b, s0, s1, rfl, hn, ok, hb0, hs0, hs1, rfl, rfl⟩ := r
  have hb := hb0.o (by omega)
  replace hs0 : PL.Ok 20 s0 := hs0.ok (by decide) (by decide) (by decide)
  replace hs1 : PL.Ok 20 s1 := hs1.ok (by decide) (by decide) (by decide)
  walk_at "norm"
  have z9 : ∀ m : Int, m.natAbs < 2 ^ 4 → m.natAbs < 2 ^ 7000 := fun m h => sz_le h (by decide)
  have z9 : ∀ m : Int, m.natAbs < 2 ^ 4 → m.natAbs < 2 ^ 8500 := fun m h => sz_le h (by decide)
  obtain ⟨o1, k1, k2⟩ := take_ok (C := C) (m := 2) ok (by decide)
  obtain ⟨o2, px⟩ := part_ok (C := (take C 2).2) (m := 2) (n := 2) o1 (by decide) (by decide)
  obtain ⟨o3, py⟩ := part_ok (C := (partM (take C 2).2 2).2) (m := 2) (n := 2) o2 (by decide) (by decide)
  obtain ⟨o4, u1, u2⟩ := take_ok (C := (partM (partM (take C 2).2 2).2 2).2) (m := 2) o3 (by decide)
  refine s_seq (s_asg (e_draw (R := RTake) (ds := [.i 2]) (C := C) (by walk_at "ev") ⟨_, rfl, ok, by decide, z9 _ (by decide), rfl, rfl⟩ hf)) ?_
  refine s_newLA (ds := [.d (fr (lplus b.p0 (partM (take C 2).2 2).1)), .d (fr (lplus b.p1 (partM (partM (take C 2).2 2).2 2).1))]) (xs := [fr (lplus b.p0 (partM (take C 2).2 2).1), fr (lplus b.p1 (partM (partM (take C 2).2 2).2 2).1)]) (J := dJ K p (partM (partM (take C 2).2 2).2 2).2 J) (a_cons (e_call (R := RPlus lplus) (a_cons (p_ixT (ds := [fr b.p0, fr b.p1]) (i := 0) (p_i0 (e_var rfl)) e_int rfl) (a_cons (e_draw (R := RPart) (ds := [.i 2]) (by walk_at "ev") ⟨_, rfl, o1, by decide, sz_le (m := 3) (by decide) (by decide), rfl, rfl⟩ hf) a_nil)) (RPlus.mk hb.p0 px)) (a_cons (e_call (R := RPlus lplus) (a_cons (p_ixT (ds := [fr b.p0, fr b.p1]) (i := 1) (p_i0 (e_var rfl)) e_int rfl) (a_cons (e_draw (R := RPart) (ds := [.i 2]) (by walk_at "ev") ⟨_, rfl, o2, by decide, sz_le (m := 3) (by decide) (by decide), rfl, rfl⟩ hf) a_nil)) (RPlus.mk hb.p1 py)) a_nil)) (.cons (.cons .nil)) (show 2 ≤ 100000 by decide) fun q hq => ?_
  have hpq : p ≠ q := fun z => hq (.inl z.symm)
  have hqJ : ¬ J.foot q := fun z => hq (.inr z)
  have hq' : ∀ C2, ¬ (dJ K p C2 J).foot q := fun C2 z => by
    rcases z with z | z
    · exact hpq z.symm
    · exact hqJ z
  have hfq : ∀ ds, ¬ (lJ K q ds J).foot p := fun ds z => by
    rcases z with z | z
    · exact hpq z
    · exact hf z
  have hq' := hq' C
  refine s_pre (I' := dJ K p (partM (partM (take C 2).2 2).2 2).2 (lJ K q [fr (lplus b.p0 (partM (take C 2).2 2).1), fr (lplus b.p1 (partM (partM (take C 2).2 2).2 2).1)] J)) (fun _ _ z => ⟨z.2.1, z.1, z.2.2⟩) ?_
  have hk : (take C 2).1 = 0 ∨ (take C 2).1 = 1 := by omega
  rcases hk with k0 | k0 <;> rw [k0]
  · have nk : Int.toNat 0 = 0 := rfl
    let v : F := if (take (partM (partM (take C 2).2 2).2 2).2 2).1 = 1 then plusM b.p0 b.s0 else lminus b.p0 s0
    refine s_seq (J := lJ K q ([fr (lplus b.p0 (partM (take C 2).2 2).1), fr (lplus b.p1 (partM (partM (take C 2).2 2).2 2).1)].set 0 (fr v)) (dJ K p (take (partM (partM (take C 2).2 2).2 2).2 2).2 J)) (s_setL (j := 0) ?_ rfl (e_var rfl) (show 0 < 2 by decide) hq') ?_
    · by_cases c : (take (partM (partM (take C 2).2 2).2 2).2 2).1 = 1
      · rw [show v = plusM b.p0 b.s0 from if_pos c]
        exact e_ifT (t_is (t_test (e_eqI (i := (take (partM (partM (take C 2).2 2).2 2).2 2).1) (j := 1) (e_draw (R := RTake) (ds := [.i 2]) (by walk_at "ev") ⟨_, rfl, o3, by decide, z9 _ (by decide), rfl, rfl⟩ (hfq _)) e_int)) (decide_eq_true c)) (e_post (J := dJ K p (take (partM (partM (take C 2).2 2).2 2).2 2).2 (lJ K q [fr (lplus b.p0 (partM (take C 2).2 2).1), fr (lplus b.p1 (partM (partM (take C 2).2 2).2 2).1)] J)) (fun _ _ z => ⟨z.2.1, z.1, z.2.2⟩) (p_call (R := RHigh) (ds := [.d (bxd b), .i 0]) (by walk_at "ev") ⟨b, 0, rfl, .inl rfl, hb.p0.mono (by omega), hb.p1.mono (by omega), hb.s0.mono (by decide), hb.s1.mono (by decide), rfl⟩))
      · rw [show v = lminus b.p0 s0 from if_neg c]
        exact e_ifF (t_is (t_test (e_eqI (i := (take (partM (partM (take C 2).2 2).2 2).2 2).1) (j := 1) (e_draw (R := RTake) (ds := [.i 2]) (by walk_at "ev") ⟨_, rfl, o3, by decide, z9 _ (by decide), rfl, rfl⟩ (hfq _)) e_int)) (decide_eq_false c)) (e_post (J := dJ K p (take (partM (partM (take C 2).2 2).2 2).2 2).2 (lJ K q [fr (lplus b.p0 (partM (take C 2).2 2).1), fr (lplus b.p1 (partM (partM (take C 2).2 2).2 2).1)] J)) (fun _ _ z => ⟨z.2.1, z.1, z.2.2⟩) (p_call (R := RPlus lminus) (ds := [.d (fr b.p0), .d (fr s0)]) (p_cons (p_ixT (ds := [fr b.p0, fr b.p1]) (i := 0) (p_i0 (e_var rfl)) (e_var rfl) rfl) (p_cons (p_ixT (ds := [fr s0, fr s1]) (i := 0) (e_var rfl) (e_var rfl) rfl) a_nil)) (RPlus.mk hb.p0 hs0)))
    have ev_ : besideM C b s0 s1 = ((v, if (take (take (partM (partM (take C 2).2 2).2 2).2 2).2 4).1 = 1 then b.p1 else lplus b.p1 (partM (partM (take C 2).2 2).2 2).1), (take (take (partM (partM (take C 2).2 2).2 2).2 2).2 4).2) := by
      unfold besideM
      simp only [k0, if_true, if_false, v]
    rw [ev_]
    generalize v = vv at *
    generalize (partM (take C 2).2 2).1 = x at *
    generalize (partM (partM (take C 2).2 2).2 2).1 = y at *
    generalize (take (partM (partM (take C 2).2 2).2 2).2 2).2 = C4 at *
    refine s_pre (I' := dJ K p C4 (lJ K q [fr vv, fr (lplus b.p1 y)] J)) (fun _ _ z => ⟨z.2.1, z.1, z.2.2⟩) ?_
    have oc : DOk C4 := o4
    by_cases c : (take C4 4).1 = 1
    · rw [if_pos c]
      refine s_seq (J := lJ K q [fr vv, fr b.p1] (dJ K p (take C4 4).2 J)) (s_ifT (t_is (t_test (e_eqI (i := (take C4 4).1) (j := 1) (e_draw (R := RTake) (ds := [.i 4]) (by walk_at "ev") ⟨_, rfl, oc, by decide, z9 _ (by decide), rfl, rfl⟩ (hfq _)) e_int)) (decide_eq_true c)) (s_pre (I' := lJ K q [fr vv, fr (lplus b.p1 y)] (dJ K p (take C4 4).2 J)) (fun _ _ z => ⟨z.2.1, z.1, z.2.2⟩) (s_setL (j := 1) (p_ixT (ds := [fr b.p0, fr b.p1]) (i := 1) (p_i0 (e_var rfl)) (e_is (p_sub (i := 1) (j := 0) e_int (e_var rfl)) rfl) rfl) rfl (e_is (p_sub (i := 1) (j := 0) e_int (e_var rfl)) rfl) (show 1 < 2 by decide) hq'))) ?_
      refine s_freeze (i := 4) rfl hq' (s_ret (p_tup2 (p_cons (p_ixL (i := 0) (e_var rfl) e_int rfl) (p_cons (p_ixL (i := 1) (e_var rfl) e_int rfl) a_nil))))
    · rw [if_neg c]
      refine s_seq (J := lJ K q [fr vv, fr (lplus b.p1 y)] (dJ K p (take C4 4).2 J)) (s_ifF (t_is (t_test (e_eqI (i := (take C4 4).1) (j := 1) (e_draw (R := RTake) (ds := [.i 4]) (by walk_at "ev") ⟨_, rfl, oc, by decide, z9 _ (by decide), rfl, rfl⟩ (hfq _)) e_int)) (decide_eq_false c)) (s_post (J := dJ K p (take C4 4).2 (lJ K q [fr vv, fr (lplus b.p1 y)] J)) (fun _ _ z => ⟨z.2.1, z.1, z.2.2⟩) s_next)) ?_
      refine s_freeze (i := 4) rfl hq' (s_ret (p_tup2 (p_cons (p_ixL (i := 0) (e_var rfl) e_int rfl) (p_cons (p_ixL (i := 1) (e_var rfl) e_int rfl) a_nil))))
  · have nk : Int.toNat 0 = 0 := rfl
    let v : F := if (take (partM (partM (take C 2).2 2).2 2).2 2).1 = 1 then plusM b.p1 b.s1 else lminus b.p1 s1
    refine s_seq (J := lJ K q ([fr (lplus b.p0 (partM (take C 2).2 2).1), fr (lplus b.p1 (partM (partM (take C 2).2 2).2 2).1)].set 1 (fr v)) (dJ K p (take (partM (partM (take C 2).2 2).2 2).2 2).2 J)) (s_setL (j := 1) ?_ rfl (e_var rfl) (show 1 < 2 by decide) hq') ?_
    · by_cases c : (take (partM (partM (take C 2).2 2).2 2).2 2).1 = 1
      · rw [show v = plusM b.p1 b.s1 from if_pos c]
        exact e_ifT (t_is (t_test (e_eqI (i := (take (partM (partM (take C 2).2 2).2 2).2 2).1) (j := 1) (e_draw (R := RTake) (ds := [.i 2]) (by walk_at "ev") ⟨_, rfl, o3, by decide, z9 _ (by decide), rfl, rfl⟩ (hfq _)) e_int)) (decide_eq_true c)) (e_post (J := dJ K p (take (partM (partM (take C 2).2 2).2 2).2 2).2 (lJ K q [fr (lplus b.p0 (partM (take C 2).2 2).1), fr (lplus b.p1 (partM (partM (take C 2).2 2).2 2).1)] J)) (fun _ _ z => ⟨z.2.1, z.1, z.2.2⟩) (p_call (R := RHigh) (ds := [.d (bxd b), .i 1]) (by walk_at "ev") ⟨b, 1, rfl, .inr rfl, hb.p0.mono (by omega), hb.p1.mono (by omega), hb.s0.mono (by decide), hb.s1.mono (by decide), rfl⟩))
      · rw [show v = lminus b.p1 s1 from if_neg c]
        exact e_ifF (t_is (t_test (e_eqI (i := (take (partM (partM (take C 2).2 2).2 2).2 2).1) (j := 1) (e_draw (R := RTake) (ds := [.i 2]) (by walk_at "ev") ⟨_, rfl, o3, by decide, z9 _ (by decide), rfl, rfl⟩ (hfq _)) e_int)) (decide_eq_false c)) (e_post (J := dJ K p (take (partM (partM (take C 2).2 2).2 2).2 2).2 (lJ K q [fr (lplus b.p0 (partM (take C 2).2 2).1), fr (lplus b.p1 (partM (partM (take C 2).2 2).2 2).1)] J)) (fun _ _ z => ⟨z.2.1, z.1, z.2.2⟩) (p_call (R := RPlus lminus) (ds := [.d (fr b.p1), .d (fr s1)]) (p_cons (p_ixT (ds := [fr b.p0, fr b.p1]) (i := 1) (p_i0 (e_var rfl)) (e_var rfl) rfl) (p_cons (p_ixT (ds := [fr s0, fr s1]) (i := 1) (e_var rfl) (e_var rfl) rfl) a_nil)) (RPlus.mk hb.p1 hs1)))
    have ev_ : besideM C b s0 s1 = ((if (take (take (partM (partM (take C 2).2 2).2 2).2 2).2 4).1 = 1 then b.p0 else lplus b.p0 (partM (take C 2).2 2).1, v), (take (take (partM (partM (take C 2).2 2).2 2).2 2).2 4).2) := by
      unfold besideM
      simp only [k0, if_true, if_false, Int.one_ne_zero, v]
    rw [ev_]
    generalize v = vv at *
    generalize (partM (take C 2).2 2).1 = x at *
    generalize (partM (partM (take C 2).2 2).2 2).1 = y at *
    generalize (take (partM (partM (take C 2).2 2).2 2).2 2).2 = C4 at *
    refine s_pre (I' := dJ K p C4 (lJ K q [fr (lplus b.p0 x), fr vv] J)) (fun _ _ z => ⟨z.2.1, z.1, z.2.2⟩) ?_
    have oc : DOk C4 := o4
    by_cases c : (take C4 4).1 = 1
    · rw [if_pos c]
      refine s_seq (J := lJ K q [fr b.p0, fr vv] (dJ K p (take C4 4).2 J)) (s_ifT (t_is (t_test (e_eqI (i := (take C4 4).1) (j := 1) (e_draw (R := RTake) (ds := [.i 4]) (by walk_at "ev") ⟨_, rfl, oc, by decide, z9 _ (by decide), rfl, rfl⟩ (hfq _)) e_int)) (decide_eq_true c)) (s_pre (I' := lJ K q [fr (lplus b.p0 x), fr vv] (dJ K p (take C4 4).2 J)) (fun _ _ z => ⟨z.2.1, z.1, z.2.2⟩) (s_setL (j := 0) (p_ixT (ds := [fr b.p0, fr b.p1]) (i := 0) (p_i0 (e_var rfl)) (e_is (p_sub (i := 1) (j := 1) e_int (e_var rfl)) rfl) rfl) rfl (e_is (p_sub (i := 1) (j := 1) e_int (e_var rfl)) rfl) (show 0 < 2 by decide) hq'))) ?_
      refine s_freeze (i := 4) rfl hq' (s_ret (p_tup2 (p_cons (p_ixL (i := 0) (e_var rfl) e_int rfl) (p_cons (p_ixL (i := 1) (e_var rfl) e_int rfl) a_nil))))
    · rw [if_neg c]
      refine s_seq (J := lJ K q [fr (lplus b.p0 x), fr vv] (dJ K p (take C4 4).2 J)) (s_ifF (t_is (t_test (e_eqI (i := (take C4 4).1) (j := 1) (e_draw (R := RTake) (ds := [.i 4]) (by walk_at "ev") ⟨_, rfl, oc, by decide, z9 _ (by decide), rfl, rfl⟩ (hfq _)) e_int)) (decide_eq_false c)) (s_post (J := dJ K p (take C4 4).2 (lJ K q [fr (lplus b.p0 x), fr vv] J)) (fun _ _ z => ⟨z.2.1, z.1, z.2.2⟩) s_next)) ?_
      refine s_freeze (i := 4) rfl hq' (s_ret (p_tup2 (p_cons (p_ixL (i := 0) (e_var rfl) e_int rfl) (p_cons (p_ixL (i := 1) (e_var rfl) e_int rfl) a_nil))))
theorem fok_law_ends (Tp : Top K mg base) : FnOk P w K mg base CX0 5 Tp.f_law_ends Tp.d_law_ends ["state", "axis", "one", "other", "told"] (spP K RLEnds) := by
  have G_law_can := fok_law_can (P := P) (w := w) (base := base) Tp
  have G_law_plus := fok_law_plus (P := P) (w := w) (base := base) Tp
  refine Tp.F_law_ends.ok sc_law_ends (fun vs H Q E h => len_P (fun _ _ ⟨_, _, _, _, e, _⟩ => by rw [e]; rfl) h) (fun cdv A outer s H vs Q E hr h => ?_)
  refine ⟨_, (pss_cons (ps_for PassesOwn.never rfl (pi_tup (pe_tup (pa_cons pe_int (pa_cons pe_int pa_nil)))) (pg_name (i := 5) sc_law_ends.nd rfl (.inl rfl)) (pss_cons (ps_set (i := 6) sc_law_ends.nd rfl (.inl rfl) (pe_ifExp (pt_cmpR op_eq (pv 5) pe_int (nomark _)) (pe_op op_sub pe_int pe_int) pe_int))
      (pss_one (ps_if (pt_cmpR op_isN (pe_ix (r := rIxT K) ix_tup (pv 4) (pv 5) (fun _ _ => rfl)) pe_non (nomark _)) (pss_cons (ps_set (i := 7) sc_law_ends.nd rfl (.inl rfl) (pe_ifExp (pt_cmpR op_notN (pe_ix (r := rIxT K) ix_tup (pv 4) (pe_op op_sub pe_int (pv 5)) (fun _ _ => rfl)) pe_non (nomark _)) (pe_ix (r := rIxT K) ix_tup (pv 4) (pe_op op_sub pe_int (pv 5)) (fun _ _ => rfl)) (pe_tup (pa_cons pe_int (pa_cons pe_int pa_nil)))))
      (pss_one (ps_if (pt_not (pt_val (pe_call G_law_can (hr.mono (by decide)) (by rfl) Tp.g_law_can Tp.F_law_can.kp Tp.b_law_can .nil pass0 (pa_cons (pv 0) (pa_cons (pv 1) (pa_cons (pv 2) (pa_cons (pv 3) (pa_cons (pe_call G_law_plus (hr.mono (by decide)) (by rfl) Tp.g_law_plus Tp.F_law_plus.kp Tp.b_law_plus .nil pass0 (pa_cons (pv 7) (pa_cons (pe_tup (pa_cons (pe_op op_mulW pe_int (pv 6)) (pa_cons pe_int pa_nil))) pa_nil))) pa_nil)))))))) (pss_one (ps_ret pe_bl)) pss_nil))) (pss_one (ps_if (PW.pt (pw_or (pt_not (pt_val (pe_call G_law_can (hr.mono (by decide)) (by rfl) Tp.g_law_can Tp.F_law_can.kp Tp.b_law_can .nil pass0 (pa_cons (pv 0) (pa_cons (pv 1) (pa_cons (pv 2) (pa_cons (pv 3) (pa_cons (pe_ix (r := rIxT K) ix_tup (pv 4) (pv 5) (fun _ _ => rfl)) pa_nil)))))))) (pw_or1 (pt_val (pe_call G_law_can (hr.mono (by decide)) (by rfl) Tp.g_law_can Tp.F_law_can.kp Tp.b_law_can .nil pass0 (pa_cons (pv 0) (pa_cons (pv 1) (pa_cons (pv 2) (pa_cons (pv 3) (pa_cons (pe_call G_law_plus (hr.mono (by decide)) (by rfl) Tp.g_law_plus Tp.F_law_plus.kp Tp.b_law_plus .nil pass0 (pa_cons (pe_ix (r := rIxT K) ix_tup (pv 4) (pv 5) (fun _ _ => rfl)) (pa_cons (pe_tup (pa_cons (pv 6) (pa_cons pe_int pa_nil))) pa_nil))) pa_nil)))))))))) (pss_one (ps_ret pe_bl)) pss_nil))))))
      (pss_one (ps_ret pe_bl))), body_P ?_ h⟩
  refine fun ds d r I => ?_
  obtain ⟨st, k, a, b, rfl, hg, lb, lj, hk, ma, mb, rfl⟩ := r
  walk_at "norm"
  have mka := mk_good hg hk ma
  have mkb := mk_good hg hk mb
  refine s_loop (α := Unit) (fun _ _ => True) (fun _ => [some (.d (stD st)), some (.i k), some (.i a), some (.i b), some (.d (playM st a b k)), none, none, none]) (fun _ => I) () trivial (iw_t (ds := [.int 0, .int 1]) (p_tup2 (p_cons e_int (p_cons e_int a_nil)))) rfl (fun i _ hlt _ => ?_) fun _ _ => p_ret e_bl
  by_cases c : b ∈ (mostM (bndM st k) a).ks
  · have c2 := most_back hg hk ma mb c
    have ep : playM st a b k = .tuple [fr (minusM (0, 1) ((mostM (bndM st k) b).v a)), fr ((mostM (bndM st k) a).v b)] := if_pos c
    have shi : Sm 300 20000 ((mostM (bndM st k) a).v b) := most_sm mka c
    have slo : Sm 300 20000 (minusM (0, 1) ((mostM (bndM st k) b).v a)) := ((sm_c0 (D := 300) (B := 0)).minus (most_sm mkb c2)).up (by decide)
    have T1 := ends_hi hg hk ma mb c
    have T2 := ends_lo hg hk ma mb c
    generalize (mostM (bndM st k) a).v b = hi at shi ep T1
    generalize minusM (0, 1) ((mostM (bndM st k) b).v a) = lo at slo ep T2
    match i, hlt with
    | 0, _ =>
      refine ⟨_, g_name, .inl ⟨(), trivial, ?_⟩⟩
      refine s_lessN (ρ' := [some (.d (stD st)), some (.i k), some (.i a), some (.i b), some (.d (playM st a b k)), some (.i 0), some (.i (-1)), none]) ⟨.inr rfl, .inr rfl, .inr rfl, .inr rfl, .inr rfl, .inl rfl, .inl rfl, .inl rfl, trivial⟩ ?_
      refine q_asg (d := .i (-1)) (e_ifT (t_is (p_test (p_eqI (i := 0) (j := 0) (e_var rfl) e_int)) rfl) (e_is (p_sub (i := 0) (j := 1) e_int e_int) rfl)) ?_
      refine q_ifF (p_test (e_isN (x := fr lo) (p_ixT (ds := [fr lo, fr hi]) (i := 0) (x := fr lo) (e_is (e_var rfl) (by rw [ep])) (e_var rfl) rfl) e_non)) rfl ?_
      have s2 : Sm 300 40000 (plusM lo (-1, 50)) := (slo.plus s50n).up (by decide)
      exact q_ifF (t_or (t_not (t_B (p_call (R := RCan) (ds := [.d (stD st), .i k, .i a, .i b, .d (fr lo)]) (p_cons (e_var rfl) (p_cons (e_var rfl) (p_cons (e_var rfl) (p_cons (e_var rfl) (p_cons (p_ixT (ds := [fr lo, fr hi]) (i := 0) (x := fr lo) (e_is (e_var rfl) (by rw [ep])) (e_var rfl) rfl) a_nil))))) ⟨st, k, a, b, lo, rfl, hg, lb, lj, hk, ma, mb, (slo.up (by decide)), rfl⟩))) fun _ => t_B (p_call (R := RCan) (ds := [.d (stD st), .i k, .i a, .i b, .d (fr (plusM lo (-1, 50)))]) (p_cons (e_var rfl) (p_cons (e_var rfl) (p_cons (e_var rfl) (p_cons (e_var rfl) (p_cons (e_is (p_call (R := RPlus lplus) (ds := [.d (fr lo), .d (fr (-1, 50))]) (p_cons (p_ixT (ds := [fr lo, fr hi]) (i := 0) (x := fr lo) (e_is (e_var rfl) (by rw [ep])) (e_var rfl) rfl) (p_cons (p_frac (a := (-1, 50)) (x := -1) (y := 50) (p_cons (e_var rfl) (p_cons e_int a_nil)) rfl) a_nil)) (RPlus.mk (m := 60) (n := 60) (slo.ok (by decide) (by decide) (by decide)) (s50n.ok (by decide) (by decide) (by decide)))) (by rw [lplus_eq slo.nrm s50n.nrm])) a_nil))))) ⟨st, k, a, b, (plusM lo (-1, 50)), rfl, hg, lb, lj, hk, ma, mb, s2, rfl⟩)) (by
        rw [T2.1, T2.2 _ s2 (by rw [iv_plus slo s50n, iv50n]; omega)]
        rfl) s_next
    | 1, _ =>
      refine ⟨_, g_name, .inl ⟨(), trivial, ?_⟩⟩
      refine s_lessN (ρ' := [some (.d (stD st)), some (.i k), some (.i a), some (.i b), some (.d (playM st a b k)), some (.i 1), some (.i (1)), none]) ⟨.inr rfl, .inr rfl, .inr rfl, .inr rfl, .inr rfl, .inl rfl, .inl rfl, .inl rfl, trivial⟩ ?_
      refine q_asg (d := .i (1)) (e_ifF (t_is (p_test (p_eqI (i := 1) (j := 0) (e_var rfl) e_int)) rfl) e_int) ?_
      refine q_ifF (p_test (e_isN (x := fr hi) (p_ixT (ds := [fr lo, fr hi]) (i := 1) (x := fr hi) (e_is (e_var rfl) (by rw [ep])) (e_var rfl) rfl) e_non)) rfl ?_
      have s2 : Sm 300 40000 (plusM hi (1, 50)) := (shi.plus s50p).up (by decide)
      exact q_ifF (t_or (t_not (t_B (p_call (R := RCan) (ds := [.d (stD st), .i k, .i a, .i b, .d (fr hi)]) (p_cons (e_var rfl) (p_cons (e_var rfl) (p_cons (e_var rfl) (p_cons (e_var rfl) (p_cons (p_ixT (ds := [fr lo, fr hi]) (i := 1) (x := fr hi) (e_is (e_var rfl) (by rw [ep])) (e_var rfl) rfl) a_nil))))) ⟨st, k, a, b, hi, rfl, hg, lb, lj, hk, ma, mb, (shi.up (by decide)), rfl⟩))) fun _ => t_B (p_call (R := RCan) (ds := [.d (stD st), .i k, .i a, .i b, .d (fr (plusM hi (1, 50)))]) (p_cons (e_var rfl) (p_cons (e_var rfl) (p_cons (e_var rfl) (p_cons (e_var rfl) (p_cons (e_is (p_call (R := RPlus lplus) (ds := [.d (fr hi), .d (fr (1, 50))]) (p_cons (p_ixT (ds := [fr lo, fr hi]) (i := 1) (x := fr hi) (e_is (e_var rfl) (by rw [ep])) (e_var rfl) rfl) (p_cons (p_frac (a := (1, 50)) (x := 1) (y := 50) (p_cons (e_var rfl) (p_cons e_int a_nil)) rfl) a_nil)) (RPlus.mk (m := 60) (n := 60) (shi.ok (by decide) (by decide) (by decide)) (s50p.ok (by decide) (by decide) (by decide)))) (by rw [lplus_eq shi.nrm s50p.nrm])) a_nil))))) ⟨st, k, a, b, (plusM hi (1, 50)), rfl, hg, lb, lj, hk, ma, mb, s2, rfl⟩)) (by
        rw [T1.1, T1.2 _ s2 (by rw [iv_plus shi s50p, iv50p]; omega)]
        rfl) s_next
  · have ep : playM st a b k = .tuple [.none, .none] := if_neg c
    match i, hlt with
    | 0, _ =>
      refine ⟨_, g_name, .inl ⟨(), trivial, ?_⟩⟩
      refine s_lessN (ρ' := [some (.d (stD st)), some (.i k), some (.i a), some (.i b), some (.d (playM st a b k)), some (.i 0), some (.i (-1)), some (.d (fr (0, 1)))]) ⟨.inr rfl, .inr rfl, .inr rfl, .inr rfl, .inr rfl, .inl rfl, .inl rfl, .inl rfl, trivial⟩ ?_
      refine q_asg (d := .i (-1)) (e_ifT (t_is (p_test (p_eqI (i := 0) (j := 0) (e_var rfl) e_int)) rfl) (e_is (p_sub (i := 0) (j := 1) e_int e_int) rfl)) ?_
      refine q_ifT (p_test (e_isN (x := .none) (p_ixT (ds := [.none, .none]) (i := 0) (x := .none) (e_is (e_var rfl) (by rw [ep])) (e_var rfl) rfl) e_non)) rfl ?_
      refine q_asg (d := .d (fr (0, 1))) (e_ifF (t_is (p_test (e_notN (x := .none) (p_ixT (ds := [.none, .none]) (i := 1) (x := .none) (e_is (e_var rfl) (by rw [ep])) (e_is (p_sub (i := 1) (j := 0) e_int (e_var rfl)) rfl) rfl) e_non)) rfl) (p_frac (a := (0, 1)) (x := 0) (y := 1) (p_cons e_int (p_cons e_int a_nil)) rfl)) ?_
      have sg : Sm 300 40000 (plusM (0, 1) ((-100), 1)) := ((sm_c0 (D := 300) (B := 0)).plus (sm_int (D := 300) (n := (-100)) (B := 100) (by decide))).up (by decide)
      exact q_ifF (t_not (t_B (p_call (R := RCan) (ds := [.d (stD st), .i k, .i a, .i b, .d (fr (plusM (0, 1) ((-100), 1)))]) (p_cons (e_var rfl) (p_cons (e_var rfl) (p_cons (e_var rfl) (p_cons (e_var rfl) (p_cons (e_is (p_call (R := RPlus lplus) (ds := [.d (fr (0, 1)), .d (fr ((-100), 1))]) (p_cons (e_var rfl) (p_cons (p_frac (a := ((-100), 1)) (x := (-100)) (y := 1) (p_cons (e_is (p_mul (i := 100) (j := -1) e_int (e_var rfl) (mulW (m := 8) (n := 8) (by decide) (by decide) (by decide))) rfl) (p_cons e_int a_nil)) rfl) a_nil)) (RPlus.mk (m := 20) (n := 20) (ok_c0 (by decide)) ((sm_int (D := 300) (n := (-100)) (B := 100) (by decide)).ok (by decide) (by decide) (by decide)))) (by rw [lplus_eq (sm_c0 (D := 300) (B := 0)).nrm (sm_int (D := 300) (n := (-100)) (B := 100) (by decide)).nrm])) a_nil))))) ⟨st, k, a, b, (plusM (0, 1) ((-100), 1)), rfl, hg, lb, lj, hk, ma, mb, sg, rfl⟩))) (by rw [ends_free hg hk ma mb c sg]; rfl) s_next
    | 1, _ =>
      refine ⟨_, g_name, .inl ⟨(), trivial, ?_⟩⟩
      refine s_lessN (ρ' := [some (.d (stD st)), some (.i k), some (.i a), some (.i b), some (.d (playM st a b k)), some (.i 1), some (.i (1)), some (.d (fr (0, 1)))]) ⟨.inr rfl, .inr rfl, .inr rfl, .inr rfl, .inr rfl, .inl rfl, .inl rfl, .inl rfl, trivial⟩ ?_
      refine q_asg (d := .i (1)) (e_ifF (t_is (p_test (p_eqI (i := 1) (j := 0) (e_var rfl) e_int)) rfl) e_int) ?_
      refine q_ifT (p_test (e_isN (x := .none) (p_ixT (ds := [.none, .none]) (i := 1) (x := .none) (e_is (e_var rfl) (by rw [ep])) (e_var rfl) rfl) e_non)) rfl ?_
      refine q_asg (d := .d (fr (0, 1))) (e_ifF (t_is (p_test (e_notN (x := .none) (p_ixT (ds := [.none, .none]) (i := 0) (x := .none) (e_is (e_var rfl) (by rw [ep])) (e_is (p_sub (i := 1) (j := 1) e_int (e_var rfl)) rfl) rfl) e_non)) rfl) (p_frac (a := (0, 1)) (x := 0) (y := 1) (p_cons e_int (p_cons e_int a_nil)) rfl)) ?_
      have sg : Sm 300 40000 (plusM (0, 1) (100, 1)) := ((sm_c0 (D := 300) (B := 0)).plus (sm_int (D := 300) (n := 100) (B := 100) (by decide))).up (by decide)
      exact q_ifF (t_not (t_B (p_call (R := RCan) (ds := [.d (stD st), .i k, .i a, .i b, .d (fr (plusM (0, 1) (100, 1)))]) (p_cons (e_var rfl) (p_cons (e_var rfl) (p_cons (e_var rfl) (p_cons (e_var rfl) (p_cons (e_is (p_call (R := RPlus lplus) (ds := [.d (fr (0, 1)), .d (fr (100, 1))]) (p_cons (e_var rfl) (p_cons (p_frac (a := (100, 1)) (x := 100) (y := 1) (p_cons (e_is (p_mul (i := 100) (j := 1) e_int (e_var rfl) (mulW (m := 8) (n := 8) (by decide) (by decide) (by decide))) rfl) (p_cons e_int a_nil)) rfl) a_nil)) (RPlus.mk (m := 20) (n := 20) (ok_c0 (by decide)) ((sm_int (D := 300) (n := 100) (B := 100) (by decide)).ok (by decide) (by decide) (by decide)))) (by rw [lplus_eq (sm_c0 (D := 300) (B := 0)).nrm (sm_int (D := 300) (n := 100) (B := 100) (by decide)).nrm])) a_nil))))) ⟨st, k, a, b, (plusM (0, 1) (100, 1)), rfl, hg, lb, lj, hk, ma, mb, sg, rfl⟩))) (by rw [ends_free hg hk ma mb c sg]; rfl) s_next
theorem fok_limbs (Tp : Top K mg base) : FnOk P w K mg base (L2.CX P w) 6 Tp.f_limbs Tp.d_limbs ["state"] (spXT K Tp.tabs RLimbs) := by
  have G_check_state := fok_check_state (P := P) (w := w) (base := base) Tp
  have G_linked_sets := fok_linked_sets (P := P) (w := w) (base := base) Tp
  refine Tp.F_limbs.okX sc_limbs (fun vs H Q E h => len_X (fun _ _ ⟨_, e, _⟩ => by rw [e]; rfl) h) (fun cdv A outer s H vs Q E hr h => ?_)
  refine ⟨_, (pss_cons (ps_expr (pe_call G_check_state (hr.mono (by decide)) (by rfl) Tp.g_check_state Tp.F_check_state.kp Tp.b_check_state .nil (passes_call (takes_of rfl rfl rfl rfl) (fun _ _ _ _ z => z)) (pa_cons (pv 0) pa_nil)))
      (pss_cons (ps_asg (pv 0) (pg_tup rfl (pgs_cons (pg_name (i := 1) sc_limbs.nd rfl (.inl rfl)) (pgs_cons (pg_name (i := 2) sc_limbs.nd rfl (.inl rfl)) (pgs_cons (pg_name (i := 3) sc_limbs.nd rfl (.inl rfl)) pgs_nil)))))
      (pss_one (ps_ret (pe_call G_linked_sets (hr.mono (by decide)) (by rfl) Tp.g_linked_sets Tp.F_linked_sets.kp Tp.b_linked_sets .nil pass0 (pa_cons (pe_lc (own := [("body", 4)]) (g := gName 4) (tt := tYes) rfl sc_limbs.nd (pi_tup (pv 1)) (blkOk_by (N := ["state", "bodies", "joints", "_", "body", "joint"]) (sc := defScope s_limbs) (by decide +kernel)) (fun _ _ _ _ _ => pg_name (i := 4) sc_limbs.nd rfl (Or.inl rfl)) (fun _ _ _ _ _ => pts_nil) (fun _ _ _ _ _ => (pe_ix (r := rIxT K) ix_tup (pv 4) pe_int (fun _ _ => rfl)))) (pa_cons (pe_lc (own := [("joint", 5)]) (g := gName 5) (tt := tYes) rfl sc_limbs.nd (pi_tup (pv 2)) (blkOk_by (N := ["state", "bodies", "joints", "_", "body", "joint"]) (sc := defScope s_limbs) (by decide +kernel)) (fun _ _ _ _ _ => pg_name (i := 5) sc_limbs.nd rfl (Or.inl rfl)) (fun _ _ _ _ _ => pts_nil) (fun _ _ _ _ _ => (pe_slice (r := rSlA K) sl_tupA (pv 5) po_none (po_some pe_int)))) pa_nil))))))), body_XT ?_ h⟩
  refine fun ds r hr I hT hx => ?_
  obtain ⟨st, rfl, hg, rfl⟩ := hr
  walk_at "norm"
  refine s_seq (s_drop (e_callX (tabs := Tp.tabs) (R := RChk Tp.c_TooLarge Tp.c_BodyError Tp.c_OverlapError Tp.c_JointError) (ds := [.d (stD st)]) (d := .d .none) (by walk_at "ev") ⟨st, rfl, hg.ok, .inl ⟨hg.good, rfl⟩⟩)) ?_
  refine s_seq (s_asgG (e_var rfl) (g_tup rfl (g_cons g_name (g_cons g_name (g_cons g_name g_nil))))) ?_
  refine p_ret (p_call (R := RLinked) (ds := [.d (.list ((nmsM st).map PyData.int)), .d (.list ((lksM st).map lkD))]) (p_cons (e_lcW (es := (nmsM st).map PyData.int) (iw_t (e_var rfl)) (by simp) (by have := hg.len.1; rw [List.length_map]; omega) fun i y hi hy => ?_) (p_cons (e_lcW (es := (lksM st).map lkD) (iw_t (e_var rfl)) (by simp) (by have := hg.len.2; rw [List.length_map]; omega) fun i y hi hy => ?_) a_nil)) ⟨nmsM st, lksM st, rfl, hg.up, hg.ends, by have := hg.len.1; rw [List.length_map]; omega, rfl⟩)
  · rw [List.map_map] at hy
    obtain ⟨z, hz, rfl⟩ := getElem?_of_map hy
    rw [at0_map hz]
    exact ⟨_, w_name (by decide), fun I' => p_i0 (e_var rfl)⟩
  · rw [List.map_map] at hy
    obtain ⟨z, hz, rfl⟩ := getElem?_of_map hy
    rw [at0_map hz]
    exact ⟨_, w_name (by decide), fun I' => e_tTo (j := 2) (ds := [.int z.a, .int z.b, .int z.k, fr z.lo, fr z.hi]) (e_var rfl) e_int⟩
theorem fok_play (Tp : Top K mg base) : FnOk P w K mg base (L2.CX P w) 6 Tp.f_play Tp.d_play ["state", "one", "other", "axis"] (spXT K Tp.tabs (RPlay Tp.c_IdError Tp.c_AxisError)) := by
  have G_check_state := fok_check_state (P := P) (w := w) (base := base) Tp
  have G_places_of := fok_places_of (P := P) (w := w) (base := base) Tp
  have G_check_axis := fok_check_axis (P := P) (w := w) (base := base) Tp
  have G_bounds_of := fok_bounds_of (P := P) (w := w) (base := base) Tp
  have G_minus := fok_minus (P := P) (w := w) (base := base) Tp
  have G_most_from := fok_most_from (P := P) (w := w) (base := base) Tp
  refine Tp.F_play.okX sc_play (fun vs H Q E h => len_X (fun _ _ ⟨_, _, _, _, e, _⟩ => by rw [e]; rfl) h) (fun cdv A outer s H vs Q E hr h => ?_)
  refine ⟨_, (pss_cons (ps_expr (pe_call G_check_state (hr.mono (by decide)) (by rfl) Tp.g_check_state Tp.F_check_state.kp Tp.b_check_state .nil (passes_call (takes_of rfl rfl rfl rfl) (fun _ _ _ _ z => z)) (pa_cons (pv 0) pa_nil)))
      (pss_cons (ps_set (i := 4) sc_play.nd rfl (.inl rfl) (pe_call G_places_of (hr.mono (by decide)) (by rfl) Tp.g_places_of Tp.F_places_of.kp Tp.b_places_of .nil pass0 (pa_cons (pe_ix (r := rIxT K) ix_tup (pv 0) pe_int (fun _ _ => rfl)) pa_nil)))
      (pss_cons (ps_if (PW.pt (pw_or (pt_cmp (pc_dnotin (hu_of hr) (pv 1) (pv 4)) rfl) (pw_or1 (pt_cmp (pc_dnotin (hu_of hr) (pv 2) (pv 4)) rfl)))) (pss_one (ps_raise rfl (takes_of rfl rfl rfl rfl) (pmk_own PySem.F.excBase_ValueError Tp.xc_IdError Tp.gc_IdError Tp.kc_IdError (raises_own Tp.bc_IdError Tp.tc_IdError) rfl))) pss_nil)
      (pss_cons (ps_expr (pe_call G_check_axis (hr.mono (by decide)) (by rfl) Tp.g_check_axis Tp.F_check_axis.kp Tp.b_check_axis .nil (passes_call (takes_of rfl rfl rfl rfl) (fun _ _ _ _ z => z)) (pa_cons (pv 3) pa_nil)))
      (pss_cons (ps_set (i := 5) sc_play.nd rfl (.inl rfl) (pe_call G_bounds_of (hr.mono (by decide)) (by rfl) Tp.g_bounds_of Tp.F_bounds_of.kp Tp.b_bounds_of .nil pass0 (pa_cons (pv 0) (pa_cons (pv 3) pa_nil))))
      (pss_cons (ps_set (i := 6) sc_play.nd rfl (.inl rfl) (pe_dget1 (hu_of hr) (pe_call G_most_from (hr.mono (by decide)) (by rfl) Tp.g_most_from Tp.F_most_from.kp Tp.b_most_from .nil pass0 (pa_cons (pv 5) (pa_cons (pv 1) pa_nil))) (pv 2) ⟨rfl, rfl, rfl, rfl⟩))
      (pss_cons (ps_if (pt_cmpR op_isN (pv 6) pe_non (nomark _)) (pss_one (ps_ret (pe_tup (pa_cons pe_non (pa_cons pe_non pa_nil))))) pss_nil)
      (pss_one (ps_ret (pe_tup (pa_cons (pe_call G_minus (hr.mono (by decide)) (by rfl) Tp.g_minus Tp.F_minus.kp Tp.b_minus .nil pass0 (pa_cons (pe_glob (v := .ref Tp.k_ZERO) (by rfl) Tp.gk_ZERO rfl) (pa_cons (pe_dget (hu_of hr) (pe_call G_most_from (hr.mono (by decide)) (by rfl) Tp.g_most_from Tp.F_most_from.kp Tp.b_most_from .nil pass0 (pa_cons (pv 5) (pa_cons (pv 2) pa_nil))) (pv 1) (fun _ _ => rfl)) pa_nil))) (pa_cons (pv 6) pa_nil)))))))))))), body_XT ?_ h⟩
  refine fun ds r hr I hT hx => ?_
  obtain ⟨st, a, b, k, rfl, hg, hr⟩ := hr
  walk_at "norm"
  refine s_seq (s_drop (e_callX (tabs := Tp.tabs) (R := RChk Tp.c_TooLarge Tp.c_BodyError Tp.c_OverlapError Tp.c_JointError) (ds := [.d (stD st)]) (d := .d .none) (by walk_at "ev") ⟨st, rfl, hg.ok, .inl ⟨hg.good, rfl⟩⟩)) ?_
  refine q_asg (d := .k (plcM st.bs)) (p_call (R := RPlaces) (ds := [.t (st.bs.map bdD)]) (p_cons (p_i0 (e_var rfl)) a_nil) ⟨st.bs, rfl, asc_nodup hg.up, hg.ok.len, rfl⟩) ?_
  have inn : ∀ n, (valD (plcM st.bs) (.inl n)).isSome = decide (n ∈ nmsM st) := fun n => by rw [plc_get, Option.isSome_map, fnd_in]
  rcases hr with ⟨h, rfl⟩ | ⟨ha, hb, hk, rfl⟩ | ⟨ha, hb, hk, rfl⟩
  · exact s_stopR ret_fin (q_ifT (t_or (t_B (e_kNot (n := a) (e_var rfl) (e_var rfl))) fun _ => t_B (e_kNot (n := b) (e_var rfl) (e_var rfl))) (by
      rw [inn, inn]
      rcases h with h | h
      · rw [decide_eq_false h]; rfl
      · rw [decide_eq_false h, Bool.or_eq_true]; exact .inr rfl) (s_raise' fun G H σ D gh io => hx _ rfl G H io))
  · refine q_skip (t_or (t_B (e_kNot (n := a) (e_var rfl) (e_var rfl))) fun _ => t_B (e_kNot (n := b) (e_var rfl) (e_var rfl))) (by rw [inn, inn, decide_eq_true ha, decide_eq_true hb]; rfl) ?_
    exact s_stopR ret_fin (s_dropE (e_callE (R := RAxis Tp.c_AxisError) (ds := [.i k]) (L := .no) (d := .d .none) (by walk_at "ev") ⟨k, rfl, .inr ⟨by rw [Bool.or_eq_false_iff, decide_eq_false_iff_not, decide_eq_false_iff_not]; exact ⟨fun z => hk (.inl z), fun z => hk (.inr z)⟩, rfl⟩⟩ fun G H io => hx _ rfl G H io) fun _ _ z => z)
  refine q_skip (t_or (t_B (e_kNot (n := a) (e_var rfl) (e_var rfl))) fun _ => t_B (e_kNot (n := b) (e_var rfl) (e_var rfl))) (by rw [inn, inn, decide_eq_true ha, decide_eq_true hb]; rfl) ?_
  refine s_seq (s_drop (e_callX (R := RAxis Tp.c_AxisError) (ds := [.i k]) (d := .d .none) (by walk_at "ev") ⟨k, rfl, .inl ⟨by rw [Bool.or_eq_true, decide_eq_true_iff, decide_eq_true_iff]; exact hk, rfl⟩⟩)) ?_
  refine q_asg (d := .d (.list ((bndM st k).map feD))) (p_call (R := RBounds) (ds := [.d (stD st), .i k]) (by walk_at "ev") ⟨st, k, rfl, hg, hk, rfl⟩) ?_
  have mka := mk_good hg hk ha
  have mkb := mk_good hg hk hb
  by_cases c : b ∈ (mostM (bndM st k) a).ks
  · have c2 := most_back hg hk ha hb c
    have vb := most_sm mka c
    have va := most_sm mkb c2
    refine q_asg (d := .d (fr ((mostM (bndM st k) a).v b))) (e_kGet1 (p_call (R := RMost) (ds := [.d (.list ((bndM st k).map feD)), .i a]) (p_cons (e_var rfl) (p_cons (e_var rfl) a_nil)) ⟨bndM st k, a, rfl, ⟨_, _, mka⟩, rfl⟩) (e_var rfl) (by rw [kvF_at c]; rfl)) ?_
    refine q_skip (p_test (e_isN (x := fr ((mostM (bndM st k) a).v b)) (e_var rfl) e_non)) rfl ?_
    have e : playM st a b k = .tuple [fr (minusM (0, 1) ((mostM (bndM st k) b).v a)), fr ((mostM (bndM st k) a).v b)] := if_pos c
    rw [e]
    exact p_ret (p_tup2 (p_cons (p_call (R := RPlus minusM) (ds := [.d (fr (0, 1)), .d (fr ((mostM (bndM st k) b).v a))]) (p_cons (e_glob (dp_const Tp.dk_ZERO fun G => .cons (.int 0) (.cons (.int 1) .nil))) (p_cons (e_kGet (p_call (R := RMost) (ds := [.d (.list ((bndM st k).map feD)), .i b]) (p_cons (e_var rfl) (p_cons (e_var rfl) a_nil)) ⟨bndM st k, b, rfl, ⟨_, _, mkb⟩, rfl⟩) (e_var rfl) (kvF_at c2)) a_nil)) (RPlus.mk (m := 40) (ok_c0 (by decide)) (va.ok (k := 40) (by decide) (by decide) (by decide)))) (p_cons (e_var rfl) a_nil)))
  · refine q_asg (d := .d .none) (e_kGet1 (p_call (R := RMost) (ds := [.d (.list ((bndM st k).map feD)), .i a]) (p_cons (e_var rfl) (p_cons (e_var rfl) a_nil)) ⟨bndM st k, a, rfl, ⟨_, _, mka⟩, rfl⟩) (e_var rfl) (by rw [kvF_get, if_neg c]; rfl)) ?_
    have e : playM st a b k = .tuple [.none, .none] := if_neg c
    rw [e]
    exact s_stop (q_ifT (p_test (e_isN (x := .none) (e_var rfl) e_non)) rfl (p_ret (p_tup2 (p_cons e_non (p_cons e_non a_nil)))))
theorem fok_posed (Tp : Top K mg base) : FnOk P w K mg base (L2.CX P w) 6 Tp.f_posed Tp.d_posed ["state", "places"] (spXT K Tp.tabs (RPosed Tp.c_IdError Tp.c_OverlapError Tp.c_JointError)) := by
  have G_check_state := fok_check_state (P := P) (w := w) (base := base) Tp
  have G_are_moving_names := fok_are_moving_names (P := P) (w := w) (base := base) Tp
  refine Tp.F_posed.okX sc_posed (fun vs H Q E h => len_X (fun _ _ ⟨_, _, e, _⟩ => by rw [e]; rfl) h) (fun cdv A outer s H vs Q E hr h => ?_)
  refine ⟨_, (pss_cons (ps_expr (pe_call G_check_state (hr.mono (by decide)) (by rfl) Tp.g_check_state Tp.F_check_state.kp Tp.b_check_state .nil (passes_call (takes_of rfl rfl rfl rfl) (fun _ _ _ _ z => z)) (pa_cons (pv 0) pa_nil)))
      (pss_cons (ps_asg (pv 0) (pg_tup rfl (pgs_cons (pg_name (i := 2) sc_posed.nd rfl (.inl rfl)) (pgs_cons (pg_name (i := 3) sc_posed.nd rfl (.inl rfl)) (pgs_cons (pg_name (i := 4) sc_posed.nd rfl (.inl rfl)) pgs_nil)))))
      (pss_cons (ps_if (pt_not (pt_val (pe_call G_are_moving_names (hr.mono (by decide)) (by rfl) Tp.g_are_moving_names Tp.F_are_moving_names.kp Tp.b_are_moving_names .nil pass0 (pa_cons (pv 2) (pa_cons (pe_lc (own := [("name", 9), ("_", 10)]) (g := (gTup K 2 (gCons (gName 9) (gCons (gName 10) gNil)))) (tt := tYes) rfl sc_posed.nd (pi_tup (pv 1)) (blkOk_by (N := ["state", "places", "bodies", "joints", "pull", "place_of", "new_bodies", "new_state", "body", "name", "_"]) (sc := defScope s_posed) (by decide +kernel)) (fun _ _ _ _ _ => (pg_tup rfl (pgs_cons (pg_name (i := 9) sc_posed.nd rfl (Or.inl rfl)) (pgs_cons (pg_name (i := 10) sc_posed.nd rfl (Or.inl rfl)) pgs_nil)))) (fun _ _ _ _ _ => pts_nil) (fun _ _ _ _ _ => (pv 9))) pa_nil))))) (pss_one (ps_raise rfl (takes_of rfl rfl rfl rfl) (pmk_own PySem.F.excBase_ValueError Tp.xc_IdError Tp.gc_IdError Tp.kc_IdError (raises_own Tp.bc_IdError Tp.tc_IdError) rfl))) pss_nil)
      (pss_cons (ps_set (i := 5) sc_posed.nd rfl (.inr rfl) (pe_callTy (cr_dictU (by rfl)) (by rfl) Tp.n_dict (by decide +kernel) (pa_cons (pv 1) pa_nil)))
      (pss_cons (ps_setLc (i := 6) (own := [("body", 8)]) (g := gName 8) (tt := tYes) rfl sc_posed.nd rfl rfl (sw_true rfl rfl rfl rfl) (pi_tup (pv 2)) (blkOk_by (N := ["state", "places", "bodies", "joints", "pull", "place_of", "new_bodies", "new_state", "body", "name", "_"]) (sc := defScope s_posed) (by decide +kernel)) (fun _ _ _ _ _ => pg_name (i := 8) sc_posed.nd rfl (Or.inl rfl)) (fun _ _ _ _ _ => pts_nil) (fun _ _ _ _ _ => (pe_op (r := rCatA K) op_catA (pe_tup (pa_cons (pe_ix (r := rIxT K) ix_tup (pv 8) pe_int (fun _ _ => rfl)) (pa_cons (pe_dget2 (hu_of hr) (pv 5) (pe_ix (r := rIxT K) ix_tup (pv 8) pe_int (fun _ _ => rfl)) (pe_ix (r := rIxT K) ix_tup (pv 8) pe_int (fun _ _ => rfl)) ⟨rfl, rfl, rfl, rfl⟩) pa_nil))) (pe_slice (r := rSlA K) sl_tupA (pv 8) (po_some pe_int) po_none))))
      (pss_cons (ps_set (i := 7) sc_posed.nd rfl (.inl rfl) (pe_tup (pa_cons (pe_callTy call_tuple_of (by rfl) Tp.n_tuple (by decide +kernel) (pa_cons (pv 6) pa_nil)) (pa_cons (pv 3) (pa_cons (pv 4) pa_nil)))))
      (pss_cons (ps_expr (pe_call G_check_state (hr.mono (by decide)) (by rfl) Tp.g_check_state Tp.F_check_state.kp Tp.b_check_state .nil (passes_call (takes_of rfl rfl rfl rfl) (fun _ _ _ _ z => z)) (pa_cons (pv 7) pa_nil)))
      (pss_one (ps_ret (pv 7)))))))))), body_XT ?_ h⟩
  refine fun ds r hr I hT hx => ?_
  obtain ⟨st, pl, rfl, hg, hlp, hpl, hr⟩ := hr
  walk_at "norm"
  refine s_seq (s_drop (e_callX (tabs := Tp.tabs) (R := RChk Tp.c_TooLarge Tp.c_BodyError Tp.c_OverlapError Tp.c_JointError) (ds := [.d (stD st)]) (d := .d .none) (by walk_at "ev") ⟨st, rfl, hg.ok, .inl ⟨hg.good, rfl⟩⟩)) ?_
  refine s_seq (s_asgG (e_var rfl) (g_tup rfl (g_cons g_name (g_cons g_name (g_cons g_name g_nil))))) ?_
  rcases hr with ⟨hb, rfl⟩ | ⟨hb, hr⟩
  · refine s_stopR ret_fin (q_ifT (t_not (t_B (p_call (R := RMovN) (ds := [.t (st.bs.map bdD), .d (.list ((pl.map (·.1)).map PyData.int))]) (p_cons (e_var rfl) (p_cons (e_is (d := .d (.list (pl.map fun z => .int z.1))) (e_lcW (es := pl.map fun z => PyData.int z.1) (iw_t (e_u2t (e_var rfl))) (by rw [List.length_map, List.length_map]) (by rw [List.length_map]; exact hlp) fun i y hi hy => ?_) (by rw [List.map_map]; rfl)) a_nil)) ⟨st.bs, pl.map (·.1), rfl, asc_nodup hg.up, hg.ok.len, rfl⟩))) (by show (!!badN st.bs (-1) (pl.map (·.1))) = true; rw [hb]; rfl) (s_raise' fun G H σ D gh io => hx _ rfl G H io))
    obtain ⟨z, hz, rfl⟩ := getElem?_of_map hy
    rw [at0_map hz]
    exact ⟨_, w_tup rfl (w_cons (w_name (by decide)) (w_cons (w_name (by decide)) w_nil)), fun I' => e_var rfl⟩
  refine q_skip (t_not (t_B (p_call (R := RMovN) (ds := [.t (st.bs.map bdD), .d (.list ((pl.map (·.1)).map PyData.int))]) (p_cons (e_var rfl) (p_cons (e_is (d := .d (.list (pl.map fun z => .int z.1))) (e_lcW (es := pl.map fun z => PyData.int z.1) (iw_t (e_u2t (e_var rfl))) (by rw [List.length_map, List.length_map]) (by rw [List.length_map]; exact hlp) fun i y hi hy => ?_) (by rw [List.map_map]; rfl)) a_nil)) ⟨st.bs, pl.map (·.1), rfl, asc_nodup hg.up, hg.ok.len, rfl⟩))) (by show (!!badN st.bs (-1) (pl.map (·.1))) = false; rw [hb]; rfl) ?_
  · obtain ⟨z, hz, rfl⟩ := getElem?_of_map hy
    rw [at0_map hz]
    exact ⟨_, w_tup rfl (w_cons (w_name (by decide)) (w_cons (w_name (by decide)) w_nil)), fun I' => e_var rfl⟩
  refine s_dictU (kps := pl.map plP) (p_cons (e_is (e_var rfl) (by rw [List.map_map]; rfl)) a_nil) (by rw [List.map_map]; exact badN_nd hb) fun q hq => ?_
  refine s_freezeK (i := 5) rfl hq ?_
  refine q_asg (d := .d (.list ((st.bs.map (mvB pl)).map bdD))) (e_lcW (iw_t (e_var rfl)) (by simp) (by rw [List.length_map]; exact hg.ok.len) fun i y hi hy => ?_) ?_
  · rw [List.map_map] at hy
    obtain ⟨z, hz, rfl⟩ := getElem?_of_map hy
    rw [at0_map hz]
    exact ⟨_, w_name (by decide), fun I' => e_is (e_catT (xs := [.int z.nm, posG pl z]) (ys := [.tuple [fr z.bx.s0, fr z.bx.s1], .int z.ms, fr z.gr, .tuple [fr z.v0, fr z.v1]]) (e_tup (a_cons (p_i0 (e_var rfl)) (a_cons (e_kGetOr (kvs := (pl.map plP).map prK) (n := z.nm) (y := vcd z.bx.p0 z.bx.p1) (e_var rfl) (p_i0 (e_var rfl)) (p_i1 (e_var rfl)) (pl_get pl z)) a_nil)) (.cons (.cons .nil)) (show 2 ≤ 100000 by decide)) (e_is (e_tFrom (j := 2) (ds := [.int z.nm, .tuple [fr z.bx.p0, fr z.bx.p1], .tuple [fr z.bx.s0, fr z.bx.s1], .int z.ms, fr z.gr, .tuple [fr z.v0, fr z.v1]]) (e_var rfl) e_int) rfl) (show 6 ≤ 100000 by decide)) (by rw [posG_eq]; rfl)⟩
  refine q_asg (d := .d (stD (newS st pl))) (e_is (e_tup (ds := [.t ((st.bs.map (mvB pl)).map bdD), .t (st.js.map jtD), .d (vcd st.u0 st.u1)]) (xs := [.tuple ((st.bs.map (mvB pl)).map bdD), .tuple (st.js.map jtD), vcd st.u0 st.u1]) (a_cons (e_tupOf (p_cons (e_var rfl) a_nil)) (a_cons (e_var rfl) (a_cons (e_var rfl) a_nil))) (.cons (.cons (.cons .nil))) (show 3 ≤ 100000 by decide)) rfl) ?_
  have ok2 := new_ok hg hpl
  rcases hr with ⟨h, rfl⟩ | ⟨h, rfl⟩ | ⟨h, rfl⟩
  · refine s_seq (s_drop (e_callX (tabs := Tp.tabs) (R := RChk Tp.c_TooLarge Tp.c_BodyError Tp.c_OverlapError Tp.c_JointError) (ds := [.d (stD (newS st pl))]) (d := .d .none) (by walk_at "ev") ⟨newS st pl, rfl, ok2, .inl ⟨h, rfl⟩⟩)) ?_
    exact p_ret (e_var rfl)
  · exact s_stopR ret_fin (s_dropE (e_callE (tabs := Tp.tabs) (R := RChk Tp.c_TooLarge Tp.c_BodyError Tp.c_OverlapError Tp.c_JointError) (ds := [.d (stD (newS st pl))]) (L := .no) (d := .d .none) (by walk_at "ev") ⟨newS st pl, rfl, ok2, .inr (.inr (.inr (.inl ⟨h, rfl⟩)))⟩ fun G H io => hx _ rfl G H io) fun _ _ z => z)
  · exact s_stopR ret_fin (s_dropE (e_callE (tabs := Tp.tabs) (R := RChk Tp.c_TooLarge Tp.c_BodyError Tp.c_OverlapError Tp.c_JointError) (ds := [.d (stD (newS st pl))]) (L := .no) (d := .d .none) (by walk_at "ev") ⟨newS st pl, rfl, ok2, .inr (.inr (.inr (.inr ⟨h, rfl⟩)))⟩ fun G H io => hx _ rfl G H io) fun _ _ z => z)
theorem fok_law_over (Tp : Top K mg base) : FnOk P w K mg base CX0 6 Tp.f_law_over Tp.d_law_over ["a", "b"] (spP K ROverB) := by
  have G_law_gap := fok_law_gap (P := P) (w := w) (base := base) Tp
  refine Tp.F_law_over.ok sc_law_over (fun vs H Q E h => len_P (fun _ _ ⟨_, _, e, _⟩ => by rw [e]; rfl) h) (fun cdv A outer s H vs Q E hr h => ?_)
  refine ⟨_, (pss_one (ps_ret (pe_and (pe_cmpR op_lt (pe_ix (r := rIxT K) ix_tup (pe_call G_law_gap (hr.mono (by decide)) (by rfl) Tp.g_law_gap Tp.F_law_gap.kp Tp.b_law_gap .nil pass0 (pa_cons (pv 0) (pa_cons (pv 1) (pa_cons pe_int pa_nil)))) pe_int (fun _ _ => rfl)) pe_int (nomark _)) (pe_one (pe_cmpR op_lt (pe_ix (r := rIxT K) ix_tup (pe_call G_law_gap (hr.mono (by decide)) (by rfl) Tp.g_law_gap Tp.F_law_gap.kp Tp.b_law_gap .nil pass0 (pa_cons (pv 0) (pa_cons (pv 1) (pa_cons pe_int pa_nil)))) pe_int (fun _ _ => rfl)) pe_int (nomark _)))))), body_P ?_ h⟩
  refine fun ds d r I => ?_
  obtain ⟨a, b, rfl, ha, hb, rfl⟩ := r
  walk_at "norm"
  exact p_ret (e_andV (p_lt (i := (gapM a.p0 a.s0 b.p0 b.s0).1) (j := 0) (p_f1 (p_call (R := RGap) (ds := [.d (bxd a), .d (bxd b), .i 0]) (by walk_at "ev") ⟨a, b, 0, rfl, .inl rfl, ha, hb, rfl⟩)) e_int) fun _ => p_lt (i := (gapM a.p1 a.s1 b.p1 b.s1).1) (j := 0) (p_f1 (p_call (R := RGap) (ds := [.d (bxd a), .d (bxd b), .i 1]) (by walk_at "ev") ⟨a, b, 1, rfl, .inr rfl, ha, hb, rfl⟩)) e_int)
theorem fok_law_box (Tp : Top K mg base) : FnOk P w K mg base CX0 6 Tp.f_law_box Tp.d_law_box ["d", "boxes"] (spN K (RBoxN K)) := by
  have G_law_size := fok_law_size (P := P) (w := w) (base := base) Tp
  have G_law_vector := fok_law_vector (P := P) (w := w) (base := base) Tp
  have G_law_take := fok_law_take (P := P) (w := w) (base := base) Tp
  have G_law_beside := fok_law_beside (P := P) (w := w) (base := base) Tp
  refine Tp.F_law_box.ok sc_law_box (fun vs H Q E h => len_N (fun _ _ _ _ ⟨_, _, _, _, _, _, e, _⟩ => by rcases e with ⟨e, _⟩ | ⟨_, e, _⟩ <;> rw [e] <;> rfl) h) (fun cdv A outer s H vs Q E hr h => ?_)
  refine ⟨_, (pss_cons (ps_set (i := 2) sc_law_box.nd rfl (.inl rfl) (pe_call G_law_size (hr.mono (by decide)) (by rfl) Tp.g_law_size Tp.F_law_size.kp Tp.b_law_size .nil pass0 (pa_cons (pv 0) pa_nil)))
      (pss_cons (ps_if (PW.pt (pw_and (pt_cmpR op_gt (pe_callB call_len_seq (by rfl) Tp.n_len (by decide +kernel) (pa_cons (pv 1) pa_nil)) pe_int (nomark _)) (pw_and1 (pt_cmpR op_gt (pe_call G_law_take (hr.mono (by decide)) (by rfl) Tp.g_law_take Tp.F_law_take.kp Tp.b_law_take .nil pass0 (pa_cons (pv 0) (pa_cons pe_int pa_nil))) pe_int (nomark _))))) (pss_one (ps_ret (pe_tup (pa_cons (pe_call G_law_beside (hr.mono (by decide)) (by rfl) Tp.g_law_beside Tp.F_law_beside.kp Tp.b_law_beside .nil pass0 (pa_cons (pv 0) (pa_cons (pe_ix (r := rIxL K) ix_list (pv 1) (pe_call G_law_take (hr.mono (by decide)) (by rfl) Tp.g_law_take Tp.F_law_take.kp Tp.b_law_take .nil pass0 (pa_cons (pv 0) (pa_cons (pe_callB call_len_seq (by rfl) Tp.n_len (by decide +kernel) (pa_cons (pv 1) pa_nil)) pa_nil))) (fun _ _ => rfl)) (pa_cons (pv 2) pa_nil)))) (pa_cons (pv 2) pa_nil))))) pss_nil)
      (pss_one (ps_ret (pe_tup (pa_cons (pe_call G_law_vector (hr.mono (by decide)) (by rfl) Tp.g_law_vector Tp.F_law_vector.kp Tp.b_law_vector .nil pass0 (pa_cons (pv 0) (pa_cons pe_int pa_nil))) (pa_cons (pv 2) pa_nil))))))), body_N ?_ h⟩
  refine fun ds C Z Po r p J hf zp => ?_
  obtain ⟨n, bs, ok, hn, hbs, hlb, hd, rfl⟩ := r
  have hfZ : ¬ (Z.and J).foot p := fun z => z.elim zp hf
  have z9 : ∀ m : Int, m.natAbs < 2 ^ 4 → m.natAbs < 2 ^ 8500 := fun m h => sz_le h (by decide)
  obtain ⟨o1, y0, y1, u0, u1⟩ := size_sm ok
  have sz : (decide (0 < (sizeM C).1.1.1) && decide (0 < (sizeM C).1.2.1)) = true := by
    rw [decide_eq_true u0, decide_eq_true u1]
    rfl
  rcases hd with ⟨rfl, rfl⟩ | ⟨q, rfl, rfl⟩
  · walk_at "norm"
    refine s_preN ?_
    replace hfZ := hf
    refine s_seq (s_asg (d := .t [fr (sizeM C).1.1, fr (sizeM C).1.2]) (e_draw (R := RSize) (ds := []) (C := C) (by walk_at "ev") ⟨rfl, ok, rfl, rfl⟩ hfZ)) ?_
    by_cases hne : bs = []
    · subst hne
      refine q_skip (b := false) (t_andF (t_is (p_test (p_gt (i := (([] : List PyData).length : Nat)) (j := 0) (p_len (ds := []) (p_cons (e_var rfl) a_nil)) e_int)) rfl)) rfl ?_
      obtain ⟨oe, v0, v1⟩ := vec_sm (C := (sizeM C).2) (m := 5) o1 (by decide)
      exact s_retN (s_ret (e_tup (a_cons (e_draw (R := RVec) (ds := [.i 5]) (by walk_at "ev") ⟨_, rfl, o1, by decide, sz_le (m := 3) (by decide) (by decide), rfl, rfl⟩ hfZ) (a_cons (e_var rfl) a_nil)) (.cons (.cons .nil)) (show 2 ≤ 100000 by decide))) ⟨oe, ⟨(vecM (sizeM C).2 5).1.1, (vecM (sizeM C).2 5).1.2, _, _⟩, rfl, ⟨v0.up (by omega), v1.up (by omega), y0, y1⟩, sz⟩
    have hl0 : 0 < bs.length := List.length_pos_iff.mpr hne
    obtain ⟨o2, t1, t2⟩ := take_ok (C := (sizeM C).2) (m := 3) o1 (by decide)
    have lm : 0 < ((bs.length : Nat) : Int) := by omega
    have zl : ((bs.length : Nat) : Int).natAbs < 2 ^ 8500 := sz_le (m := 20) (by omega) (by decide)
    obtain ⟨o3, t3, t4⟩ := take_ok (C := (take (sizeM C).2 3).2) (m := ((bs.length : Nat) : Int)) o2 lm
    by_cases c : 0 < (take (sizeM C).2 3).1
    · obtain ⟨idx, hidx⟩ : ∃ idx : Nat, (take (take (sizeM C).2 3).2 ((bs.length : Nat) : Int)).1 = (idx : Nat) := ⟨_, (Int.toNat_of_nonneg t3).symm⟩
      have hi : idx < bs.length := by omega
      have hb := hbs bs[idx] (List.getElem_mem hi)
      have hg : (bs.map fun b => bxd b)[idx]? = some (bxd bs[idx]) := by rw [List.getElem?_map, List.getElem?_eq_getElem hi]; rfl
      obtain ⟨oe, b0, b1⟩ := besideN_ok o3 hb y0 y1
      refine s_stopR ret_fin (s_ifT (t_andT (t_is (p_test (p_gt (i := ((bs.map fun b => bxd b).length : Nat)) (j := 0) (p_len (ds := (bs.map fun b => bxd b)) (p_cons (e_var rfl) a_nil)) e_int)) (decide_eq_true (by rw [List.length_map]; exact lm))) (t_is (t_test (e_gt (i := (take (sizeM C).2 3).1) (j := 0) (e_draw (R := RTake) (ds := [.i 3]) (by walk_at "ev") ⟨_, rfl, o1, by decide, z9 _ (by decide), rfl, rfl⟩ hfZ) e_int)) (decide_eq_true c))) ?_)
      exact s_retN (s_ret (e_tup (a_cons (e_draw (R := RBesideG) (ds := [.d (bxd bs[idx]), .t [fr (sizeM C).1.1, fr (sizeM C).1.2]]) (a_cons (e_var rfl) (a_cons (e_ixL (j := idx) (e_var rfl) (e_is (e_draw (R := RTake) (ds := [.i ((bs.length : Nat) : Int)]) (p_cons (e_var rfl) (p_cons (e_is (p_len (ds := (bs.map fun b => bxd b)) (p_cons (e_var rfl) a_nil)) (by rw [List.length_map])) a_nil)) ⟨_, rfl, o2, lm, zl, rfl, rfl⟩ hfZ) (by rw [hidx])) hg) (a_cons (e_var rfl) a_nil))) ⟨n, bs[idx], _, _, rfl, hn.2, o3, hb, y0, y1, rfl, rfl⟩ hfZ) (a_cons (e_var rfl) a_nil)) (.cons (.cons .nil)) (show 2 ≤ 100000 by decide))) ⟨oe, ⟨_, _, _, _⟩, rfl, ⟨b0, b1, y0, y1⟩, sz⟩
    · obtain ⟨oe, v0, v1⟩ := vec_sm (C := (take (sizeM C).2 3).2) (m := 5) o2 (by decide)
      refine s_seq (s_ifF (t_andT (t_is (p_test (p_gt (i := ((bs.map fun b => bxd b).length : Nat)) (j := 0) (p_len (ds := (bs.map fun b => bxd b)) (p_cons (e_var rfl) a_nil)) e_int)) (decide_eq_true (by rw [List.length_map]; exact lm))) (t_is (t_test (e_gt (i := (take (sizeM C).2 3).1) (j := 0) (e_draw (R := RTake) (ds := [.i 3]) (by walk_at "ev") ⟨_, rfl, o1, by decide, z9 _ (by decide), rfl, rfl⟩ hfZ) e_int)) (decide_eq_false c))) s_next) ?_
      exact s_retN (s_ret (e_tup (a_cons (e_draw (R := RVec) (ds := [.i 5]) (by walk_at "ev") ⟨_, rfl, o2, by decide, sz_le (m := 3) (by decide) (by decide), rfl, rfl⟩ hfZ) (a_cons (e_var rfl) a_nil)) (.cons (.cons .nil)) (show 2 ≤ 100000 by decide))) ⟨oe, ⟨_, _, _, _⟩, rfl, ⟨v0.up (by omega), v1.up (by omega), y0, y1⟩, sz⟩
  · walk_at "norm"
    refine s_seq (s_asg (d := .t [fr (sizeM C).1.1, fr (sizeM C).1.2]) (e_draw (R := RSize) (ds := []) (C := C) (by walk_at "ev") ⟨rfl, ok, rfl, rfl⟩ hfZ)) ?_
    by_cases hne : bs = []
    · subst hne
      refine q_skip (b := false) (t_andF (t_is (p_test (p_gt (i := (([] : List PyData).length : Nat)) (j := 0) (e_borrowD (ds := []) (i := 1) rfl rfl fun I2 => p_len (ds := []) (p_cons (e_var rfl) a_nil)) e_int)) rfl)) rfl ?_
      obtain ⟨oe, v0, v1⟩ := vec_sm (C := (sizeM C).2) (m := 5) o1 (by decide)
      exact s_retZ (s_ret (e_tup (a_cons (e_draw (R := RVec) (ds := [.i 5]) (by walk_at "ev") ⟨_, rfl, o1, by decide, sz_le (m := 3) (by decide) (by decide), rfl, rfl⟩ hfZ) (a_cons (e_var rfl) a_nil)) (.cons (.cons .nil)) (show 2 ≤ 100000 by decide))) ⟨oe, ⟨(vecM (sizeM C).2 5).1.1, (vecM (sizeM C).2 5).1.2, _, _⟩, rfl, ⟨v0.up (by omega), v1.up (by omega), y0, y1⟩, sz⟩
    have hl0 : 0 < bs.length := List.length_pos_iff.mpr hne
    obtain ⟨o2, t1, t2⟩ := take_ok (C := (sizeM C).2) (m := 3) o1 (by decide)
    have lm : 0 < ((bs.length : Nat) : Int) := by omega
    have zl : ((bs.length : Nat) : Int).natAbs < 2 ^ 8500 := sz_le (m := 20) (by omega) (by decide)
    obtain ⟨o3, t3, t4⟩ := take_ok (C := (take (sizeM C).2 3).2) (m := ((bs.length : Nat) : Int)) o2 lm
    by_cases c : 0 < (take (sizeM C).2 3).1
    · obtain ⟨idx, hidx⟩ : ∃ idx : Nat, (take (take (sizeM C).2 3).2 ((bs.length : Nat) : Int)).1 = (idx : Nat) := ⟨_, (Int.toNat_of_nonneg t3).symm⟩
      have hi : idx < bs.length := by omega
      have hb := hbs bs[idx] (List.getElem_mem hi)
      have hg : (bs.map fun b => bxd b)[idx]? = some (bxd bs[idx]) := by rw [List.getElem?_map, List.getElem?_eq_getElem hi]; rfl
      obtain ⟨oe, b0, b1⟩ := besideN_ok o3 hb y0 y1
      refine s_stopR ret_fin (s_ifT (t_andT (t_is (p_test (p_gt (i := ((bs.map fun b => bxd b).length : Nat)) (j := 0) (e_borrowD (ds := (bs.map fun b => bxd b)) (i := 1) rfl rfl fun I2 => p_len (ds := (bs.map fun b => bxd b)) (p_cons (e_var rfl) a_nil)) e_int)) (decide_eq_true (by rw [List.length_map]; exact lm))) (t_is (t_test (e_gt (i := (take (sizeM C).2 3).1) (j := 0) (e_draw (R := RTake) (ds := [.i 3]) (by walk_at "ev") ⟨_, rfl, o1, by decide, z9 _ (by decide), rfl, rfl⟩ hfZ) e_int)) (decide_eq_true c))) ?_)
      exact s_retZ (s_ret (e_tup (a_cons (e_draw (R := RBesideG) (ds := [.d (bxd bs[idx]), .t [fr (sizeM C).1.1, fr (sizeM C).1.2]]) (a_cons (e_var rfl) (a_cons (e_ixM (q := q) (ds := bs.map fun b => bxd b) (j := idx) (e_varM rfl) (e_is (e_draw (R := RTake) (ds := [.i ((bs.length : Nat) : Int)]) (p_cons (e_var rfl) (p_cons (e_is (e_borrowD (ds := (bs.map fun b => bxd b)) (i := 1) rfl rfl fun I2 => p_len (ds := (bs.map fun b => bxd b)) (p_cons (e_var rfl) a_nil)) (by rw [List.length_map])) a_nil)) ⟨_, rfl, o2, lm, zl, rfl, rfl⟩ hfZ) (by rw [hidx])) (fun G H z => z.2.1) hg) (a_cons (e_var rfl) a_nil))) ⟨n, bs[idx], _, _, rfl, hn.2, o3, hb, y0, y1, rfl, rfl⟩ hfZ) (a_cons (e_var rfl) a_nil)) (.cons (.cons .nil)) (show 2 ≤ 100000 by decide))) ⟨oe, ⟨_, _, _, _⟩, rfl, ⟨b0, b1, y0, y1⟩, sz⟩
    · obtain ⟨oe, v0, v1⟩ := vec_sm (C := (take (sizeM C).2 3).2) (m := 5) o2 (by decide)
      refine s_seq (s_ifF (t_andT (t_is (p_test (p_gt (i := ((bs.map fun b => bxd b).length : Nat)) (j := 0) (e_borrowD (ds := (bs.map fun b => bxd b)) (i := 1) rfl rfl fun I2 => p_len (ds := (bs.map fun b => bxd b)) (p_cons (e_var rfl) a_nil)) e_int)) (decide_eq_true (by rw [List.length_map]; exact lm))) (t_is (t_test (e_gt (i := (take (sizeM C).2 3).1) (j := 0) (e_draw (R := RTake) (ds := [.i 3]) (by walk_at "ev") ⟨_, rfl, o1, by decide, z9 _ (by decide), rfl, rfl⟩ hfZ) e_int)) (decide_eq_false c))) s_next) ?_
      exact s_retZ (s_ret (e_tup (a_cons (e_draw (R := RVec) (ds := [.i 5]) (by walk_at "ev") ⟨_, rfl, o2, by decide, sz_le (m := 3) (by decide) (by decide), rfl, rfl⟩ hfZ) (a_cons (e_var rfl) a_nil)) (.cons (.cons .nil)) (show 2 ≤ 100000 by decide))) ⟨oe, ⟨_, _, _, _⟩, rfl, ⟨v0.up (by omega), v1.up (by omega), y0, y1⟩, sz⟩
theorem fok_law_bodies (Tp : Top K mg base) : FnOk P w K mg base CX0 7 Tp.f_law_bodies Tp.d_law_bodies ["d", "many", "fixed"] (spN K RBodiesN) := by
  have G_law_take := fok_law_take (P := P) (w := w) (base := base) Tp
  have G_law_box := fok_law_box (P := P) (w := w) (base := base) Tp
  have G_law_vector := fok_law_vector (P := P) (w := w) (base := base) Tp
  have G_law_over := fok_law_over (P := P) (w := w) (base := base) Tp
  refine Tp.F_law_bodies.ok sc_law_bodies (fun vs H Q E h => len_N (fun _ _ _ _ ⟨_, _, e, _⟩ => by rw [e]; rfl) h) (fun cdv A outer s H vs Q E hr h => ?_)
  refine ⟨_, (pss_cons (ps_set (i := 3) sc_law_bodies.nd rfl (.inl rfl) (pe_lst pa_nil))
      (pss_cons (ps_set (i := 4) sc_law_bodies.nd rfl (.inl rfl) (pe_lst pa_nil))
      (pss_cons (ps_set (i := 5) sc_law_bodies.nd rfl (.inl rfl) (pe_call G_law_take (hr.mono (by decide)) (by rfl) Tp.g_law_take Tp.F_law_take.kp Tp.b_law_take .nil pass0 (pa_cons (pv 0) (pa_cons pe_int pa_nil))))
      (pss_cons (ps_for PassesOwn.never rfl (pi_range1 (by rfl) Tp.n_range (pa_cons (pv 1) pa_nil)) (pg_name (i := 6) sc_law_bodies.nd rfl (.inl rfl)) (pss_cons (ps_set (i := 7) sc_law_bodies.nd rfl (.inr rfl) (pe_call G_law_box (hr.mono (by decide)) (by rfl) Tp.g_law_box Tp.F_law_box.kp Tp.b_law_box .nil pass0 (pa_cons (pv 0) (pa_cons (pv 4) pa_nil))))
      (pss_one (ps_if (pt_not (pt_val (pe_callB (cr_any rfl) (by rfl) Tp.n_any (by decide +kernel) (pa_cons (pe_lc (own := [("other", 11)]) (g := gName 11) (tt := tYes) rfl sc_law_bodies.nd (pi_list (pv 4)) (blkOk_by (N := ["d", "many", "fixed", "bodies", "boxes", "name", "k", "box", "mass", "grip", "speed", "other"]) (sc := defScope s_law_bodies) (by decide +kernel)) (fun _ _ _ _ _ => pg_name (i := 11) sc_law_bodies.nd rfl (Or.inl rfl)) (fun _ _ _ _ _ => pts_nil) (fun _ _ _ _ _ => (pe_call G_law_over (hr.mono (by decide)) (by rfl) Tp.g_law_over Tp.F_law_over.kp Tp.b_law_over .nil pass0 (pa_cons (pv 7) (pa_cons (pv 11) pa_nil))))) pa_nil)))) (pss_cons (ps_set (i := 8) sc_law_bodies.nd rfl (.inl rfl) (pe_ifExp (pt_cmpR op_lt (pe_call G_law_take (hr.mono (by decide)) (by rfl) Tp.g_law_take Tp.F_law_take.kp Tp.b_law_take .nil pass0 (pa_cons (pv 0) (pa_cons pe_int pa_nil))) (pv 2) (nomark _)) pe_int (pe_op op_add pe_int (pe_call G_law_take (hr.mono (by decide)) (by rfl) Tp.g_law_take Tp.F_law_take.kp Tp.b_law_take .nil pass0 (pa_cons (pv 0) (pa_cons pe_int pa_nil))))))
      (pss_cons (ps_set (i := 9) sc_law_bodies.nd rfl (.inl rfl) (pe_ix (r := rIxT K) ix_tup (pe_tup (pa_cons (pe_tup (pa_cons pe_int (pa_cons pe_int pa_nil))) (pa_cons (pe_tup (pa_cons pe_int (pa_cons pe_int pa_nil))) (pa_cons (pe_tup (pa_cons pe_int (pa_cons pe_int pa_nil))) (pa_cons (pe_tup (pa_cons pe_int (pa_cons pe_int pa_nil))) (pa_cons (pe_tup (pa_cons pe_int (pa_cons pe_int pa_nil))) pa_nil)))))) (pe_call G_law_take (hr.mono (by decide)) (by rfl) Tp.g_law_take Tp.F_law_take.kp Tp.b_law_take .nil pass0 (pa_cons (pv 0) (pa_cons pe_int pa_nil))) (fun _ _ => rfl)))
      (pss_cons (ps_set (i := 10) sc_law_bodies.nd rfl (.inl rfl) (pe_ifExp (PW.pt (pw_and (pt_cmpR op_gt (pv 8) pe_int (nomark _)) (pw_and1 (pt_cmpR op_gt (pe_call G_law_take (hr.mono (by decide)) (by rfl) Tp.g_law_take Tp.F_law_take.kp Tp.b_law_take .nil pass0 (pa_cons (pv 0) (pa_cons pe_int pa_nil))) pe_int (nomark _))))) (pe_call G_law_vector (hr.mono (by decide)) (by rfl) Tp.g_law_vector Tp.F_law_vector.kp Tp.b_law_vector .nil pass0 (pa_cons (pv 0) (pa_cons pe_int pa_nil))) (pe_tup (pa_cons (pe_tup (pa_cons pe_int (pa_cons pe_int pa_nil))) (pa_cons (pe_tup (pa_cons pe_int (pa_cons pe_int pa_nil))) pa_nil)))))
      (pss_cons (ps_expr (pe_bm PySem.F.plainAttrs_list PySem.F.slot_list_append PySem.F.type_list_append mt_append (pv 3) (pa_cons (pe_tup (pa_cons (pv 5) (pa_cons (pe_ix (r := rIxT K) ix_tup (pv 7) pe_int (fun _ _ => rfl)) (pa_cons (pe_ix (r := rIxT K) ix_tup (pv 7) pe_int (fun _ _ => rfl)) (pa_cons (pv 8) (pa_cons (pv 9) (pa_cons (pv 10) pa_nil))))))) pa_nil)))
      (pss_cons (ps_expr (pe_bm PySem.F.plainAttrs_list PySem.F.slot_list_append PySem.F.type_list_append mt_append (pv 4) (pa_cons (pv 7) pa_nil)))
      (pss_one (ps_set (i := 5) sc_law_bodies.nd rfl (.inl rfl) (pe_op op_add (pe_op op_add (pv 5) pe_int) (pe_call G_law_take (hr.mono (by decide)) (by rfl) Tp.g_law_take Tp.F_law_take.kp Tp.b_law_take .nil pass0 (pa_cons (pv 0) (pa_cons pe_int pa_nil))))))))))) pss_nil))))
      (pss_one (ps_ret (pe_callTy call_tuple_of (by rfl) Tp.n_tuple (by decide +kernel) (pa_cons (pv 3) pa_nil)))))))), body_N ?_ h⟩
  refine fun ds C Z Po r p J hf zp => ?_
  obtain ⟨many, fixed, rfl, hm, ok, rfl, rfl⟩ := r
  walk_at "norm"
  have z9 : ∀ m : Int, m.natAbs < 2 ^ 4 → m.natAbs < 2 ^ 8500 := fun m h => sz_le h (by decide)
  refine s_preN ?_
  refine s_newL fun q1 h1 => ?_
  refine s_newL fun q2 h2 => ?_
  have p1 : q1 ≠ p := fun z => h1 (.inl z)
  have p2 : q2 ≠ p := fun z => h2 (.inr (.inl z))
  have p12 : q2 ≠ q1 := fun z => h2 (.inl z)
  have n1 : ¬ J.foot q1 := fun z => h1 (.inr z)
  have n2 : ¬ J.foot q2 := fun z => h2 (.inr (.inr z))
  have hfq : ∀ X Y, ¬ (lJ K q1 X (lJ K q2 Y J)).foot p := fun X Y z => by
    rcases z with z | z | z
    · exact p1 z.symm
    · exact p2 z.symm
    · exact hf z
  refine s_pre (I' := dJ K p C (lJ K q1 [] (lJ K q2 [] J))) (fun G H z => ⟨z.2.2.1, z.2.1, z.1, z.2.2.2⟩) ?_
  obtain ⟨ok1, t1, t2⟩ := take_ok (C := C) (m := 3) ok (by decide)
  refine s_seq (s_asg (e_draw (R := RTake) (ds := [.i 3]) (C := C) (by walk_at "ev") ⟨_, rfl, ok, by decide, z9 _ (by decide), rfl, rfl⟩ (hfq [] []))) ?_
  refine s_loopN (α := BSt) BSt.W (fun a => [some (.r p), some (.i (many : Nat)), some (.i fixed), some (.r q1), some (.r q2), some (.i a.nm), none, none, none, none, none, none]) (fun a => (dJ K p a.C (lJ K q1 (a.bs.map bdD) (lJ K q2 (a.bs.map fun b => bxd b.bx) J)))) ⟨[], (take C 3).1, (take C 3).2⟩ ⟨ok1, Nat.le_refl _, fun z => absurd z (Nat.lt_irrefl _), fun b h => by simp at h, t1, by show (take C 3).1 ≤ 2 + 3 * (0 : Nat); omega, rfl, rfl⟩ (iw_r (n := many) (by walk_at "ev") (by omega)) rfl (fun i a hi hw => ⟨_, g_name, .inl ?_⟩) fun a hw => ?_
  rotate_left
  · -- behind the loop
    obtain ⟨oa, hl, hne, hB, hn0, hn1, hbad, hov⟩ := hw
    refine s_pre (I' := lJ K q1 (a.bs.map bdD) (dJ K p a.C (lJ K q2 (a.bs.map fun b => bxd b.bx) J))) (fun G H z => ⟨z.2.1, z.1, z.2.2⟩) ?_
    refine s_freeze (i := 3) rfl (fun z => by
      rcases z with z | z | z
      · exact p1 z
      · exact p12 z.symm
      · exact n1 z) ?_
    refine s_ofRt (p_ret (e_tupOf (by walk_at "ev"))) fun v G H gh j dv => ⟨.t (a.bs.map bdD), a.C, ⟨oa, a.bs, rfl, ⟨fun b hb => (hB b hb).1.mono (by omega), hl, fun z => hne z, hbad, hov, fun b hb => ?_⟩⟩, ⟨j.1, j.2.2⟩, dv⟩
    have := (hB b hb).2
    omega
  obtain ⟨oa, hl, hne, hB, hn0, hn1, hbad, hov⟩ := hw
  refine s_asgN (P := fun d L => ∃ b C', d = .d (bxd b) ∧ DOk C' ∧ BN (10 + 6 * i + 6) b ∧ b.sized = true ∧ L = (dJ K p C' (lJ K q1 (a.bs.map bdD) (lJ K q2 (a.bs.map fun b => bxd b.bx) J)))) (en_draw (R := RBoxN K) (ds := [.r q2]) (C := a.C) (Z := lA K q2 (a.bs.map fun b => bxd b.bx)) (by walk_at "ev") ⟨10 + 6 * i, a.bs.map (·.bx), oa, by omega, fun b hb => by
    obtain ⟨o, ho, rfl⟩ := List.mem_map.mp hb
    exact (hB o ho).1.bx, by rw [List.length_map]; omega, .inr ⟨q2, rfl, by rw [List.map_map]; rfl⟩, rfl⟩ (hfq _ _) (fun G H z => z.2.1) (fun z => p2 z.symm) fun d C' po => by
    obtain ⟨oc, b, rfl, hb, hs⟩ := po
    exact ⟨b, C', rfl, oc, hb, hs, rfl⟩) fun d L po => ?_
  obtain ⟨b, C1, rfl, oc, hb, hs, rfl⟩ := po
  obtain ⟨v, hv⟩ : ∃ v, (a.bs.map fun o => pairM lt0 b o.bx).any id = v := ⟨_, rfl⟩
  cases v with
  | true =>
    refine s_ne (ρ1 := [some (.r p), some (.i (many : Nat)), some (.i fixed), some (.r q1), some (.r q2), some (.i a.nm), none, none, none, none, none, none]) (J := (dJ K p C1 (lJ K q1 (a.bs.map bdD) (lJ K q2 (a.bs.map fun b => bxd b.bx) J)))) (s_lessN (ρ' := [some (.r p), some (.i (many : Nat)), some (.i fixed), some (.r q1), some (.r q2), some (.i a.nm), some (.i (i : Nat)), some (.d (bxd b)), none, none, none, none]) ⟨.inr rfl, .inr rfl, .inr rfl, .inr rfl, .inr rfl, .inr rfl, .inl rfl, .inl rfl, .inr rfl, .inr rfl, .inr rfl, .inr rfl, trivial⟩ (q_ifF (b := !((a.bs.map fun o => pairM lt0 b o.bx).any id)) ?_ (by rw [hv]; rfl) s_next)) ⟨⟨a.bs, a.nm, C1⟩, ⟨oc, by show a.bs.length ≤ i + 1; omega, fun _ e => ?_, fun o ho => ⟨(hB o ho).1.mono (by omega), (hB o ho).2⟩, hn0, by show a.nm ≤ 2 + 3 * ((i + 1 : Nat) : Int); omega, hbad, hov⟩, rfl, rfl⟩
    · skip
      refine t_not (t_B (e_borrowD2 (K := K) (J := J) (p := p) (q := q1) (q2 := q2) (ds := a.bs.map bdD) (ds2 := a.bs.map fun b => bxd b.bx) (C := C1) (x := .bool ((a.bs.map fun o => pairM lt0 b o.bx).any id)) (i := 4) rfl rfl fun I2 => ?_))
      refine e_any (p_cons ?_ a_nil)
      refine e_lcW (iw_l (ds := a.bs.map fun b => bxd b.bx) (e_var rfl)) ?_ ?_ fun j y hj hy => ?_
      · rw [List.length_map, List.length_map, List.length_map]
      · rw [List.length_map]
        omega
      obtain ⟨o, ho, ey⟩ : ∃ o, a.bs[j]? = some o ∧ y = .bool (pairM lt0 b o.bx) := by
        rw [List.getElem?_map, List.getElem?_map] at hy
        cases e : a.bs[j]? with
        | none =>
          rw [e] at hy
          cases hy
        | some o =>
          rw [e] at hy
          exact ⟨o, rfl, (Option.some.inj hy).symm⟩
      rw [ey]
      have hO : BxSz o.bx := (hB o (List.mem_of_getElem? ho)).1.bx.sz (by omega)
      have hb' : BxSz b := hb.sz (by omega)
      rw [at0_map (f := fun b => bxd b.bx) ho]
      refine ⟨_, w_name List.mem_cons_self, fun I3 => e_is (p_call (R := ROverB) (ds := [.d (bxd b), .d (bxd o.bx)]) (by walk_at "ev") ⟨b, o.bx, rfl, hb', hO, rfl⟩) ?_⟩
      rw [← over_due hb' hO]
    have e : a.bs = [] := e
    rw [e] at hv
    cases hv
  | false =>
    refine q_ifT (b := !((a.bs.map fun o => pairM lt0 b o.bx).any id)) ?_ (by rw [hv]; rfl) ?_
    · skip
      refine t_not (t_B (e_borrowD2 (K := K) (J := J) (p := p) (q := q1) (q2 := q2) (ds := a.bs.map bdD) (ds2 := a.bs.map fun b => bxd b.bx) (C := C1) (x := .bool ((a.bs.map fun o => pairM lt0 b o.bx).any id)) (i := 4) rfl rfl fun I2 => ?_))
      refine e_any (p_cons ?_ a_nil)
      refine e_lcW (iw_l (ds := a.bs.map fun b => bxd b.bx) (e_var rfl)) ?_ ?_ fun j y hj hy => ?_
      · rw [List.length_map, List.length_map, List.length_map]
      · rw [List.length_map]
        omega
      obtain ⟨o, ho, ey⟩ : ∃ o, a.bs[j]? = some o ∧ y = .bool (pairM lt0 b o.bx) := by
        rw [List.getElem?_map, List.getElem?_map] at hy
        cases e : a.bs[j]? with
        | none =>
          rw [e] at hy
          cases hy
        | some o =>
          rw [e] at hy
          exact ⟨o, rfl, (Option.some.inj hy).symm⟩
      rw [ey]
      have hO : BxSz o.bx := (hB o (List.mem_of_getElem? ho)).1.bx.sz (by omega)
      have hb' : BxSz b := hb.sz (by omega)
      rw [at0_map (f := fun b => bxd b.bx) ho]
      refine ⟨_, w_name List.mem_cons_self, fun I3 => e_is (p_call (R := ROverB) (ds := [.d (bxd b), .d (bxd o.bx)]) (by walk_at "ev") ⟨b, o.bx, rfl, hb', hO, rfl⟩) ?_⟩
      rw [← over_due hb' hO]
    have hno : ∀ o ∈ a.bs, pairM lt0 o.bx b = false := fun o ho => by
      rw [pair_comm]
      have := List.any_eq_false.mp hv (pairM lt0 b o.bx) (List.mem_map.mpr ⟨o, ho, rfl⟩)
      simpa using this
    -- mass
    refine s_seqX (α := Int × DS) (fun z => DOk z.2 ∧ 0 ≤ z.1 ∧ z.1 ≤ 4) (fun z => [some (.r p), some (.i (many : Nat)), some (.i fixed), some (.r q1), some (.r q2), some (.i a.nm), some (.i (i : Nat)), some (.d (bxd b)), some (.i z.1), none, none, none]) (fun z => (dJ K p z.2 (lJ K q1 (a.bs.map bdD) (lJ K q2 (a.bs.map fun b => bxd b.bx) J)))) ?_ fun z hz => ?_
    · obtain ⟨o1, t1, t2⟩ := take_ok (C := C1) (m := 5) oc (by decide)
      obtain ⟨o2, t3, t4⟩ := take_ok (C := (take C1 5).2) (m := 4) o1 (by decide)
      by_cases c : (take C1 5).1 < fixed
      · exact ⟨(0, (take C1 5).2), ⟨o1, by show (0 : Int) ≤ 0; decide, by show (0 : Int) ≤ 4; decide⟩, s_asg (e_ifT (t_is (t_test (e_lt (i := (take C1 5).1) (j := fixed) (e_draw (R := RTake) (ds := [.i 5]) (C := C1) (by walk_at "ev") ⟨_, rfl, oc, by decide, z9 _ (by decide), rfl, rfl⟩ (hfq _ _)) (e_var rfl))) (decide_eq_true c)) e_int)⟩
      · exact ⟨(1 + (take (take C1 5).2 4).1, (take (take C1 5).2 4).2), ⟨o2, by show 0 ≤ 1 + _; omega, by show 1 + _ ≤ _; omega⟩, s_asg (e_ifF (t_is (t_test (e_lt (i := (take C1 5).1) (j := fixed) (e_draw (R := RTake) (ds := [.i 5]) (C := C1) (by walk_at "ev") ⟨_, rfl, oc, by decide, z9 _ (by decide), rfl, rfl⟩ (hfq _ _)) (e_var rfl))) (decide_eq_false c)) (e_add e_int (e_draw (R := RTake) (ds := [.i 4]) (C := (take C1 5).2) (by walk_at "ev") ⟨_, rfl, o1, by decide, z9 _ (by decide), rfl, rfl⟩ (hfq _ _))))⟩
    obtain ⟨ms, C2⟩ := z
    obtain ⟨oc2, ms0, ms4⟩ := hz
    replace oc2 : DOk C2 := oc2
    replace ms0 : 0 ≤ ms := ms0
    replace ms4 : ms ≤ 4 := ms4
    -- grip
    refine s_seqX (α := F × DS) (fun z => DOk z.2 ∧ Sm 2 2 z.1 ∧ (decide (cmpM z.1 (0, 1) < 0) || decide (0 < cmpM z.1 (4, 1))) = false) (fun z => [some (.r p), some (.i (many : Nat)), some (.i fixed), some (.r q1), some (.r q2), some (.i a.nm), some (.i (i : Nat)), some (.d (bxd b)), some (.i ms), some (.d (fr z.1)), none, none]) (fun z => (dJ K p z.2 (lJ K q1 (a.bs.map bdD) (lJ K q2 (a.bs.map fun b => bxd b.bx) J)))) ?_ fun z hz => ?_
    · obtain ⟨o1, t1, t2⟩ := take_ok (C := C2) (m := 5) oc2 (by decide)
      obtain ⟨gr, hg, g1, g2⟩ := grip_at t1 t2
      exact ⟨(gr, (take C2 5).2), ⟨o1, g1, g2⟩, s_asg (e_ixT' (x := fr gr) (ds := gripsD) (p_tup (ds := [.d (fr (0, 1)), .d (fr (1, 2)), .d (fr (1, 1)), .d (fr (2, 1)), .d (fr (0, 1))]) (p_cons (p_frac (a := (0, 1)) (x := 0) (y := 1) (by walk_at "ev") rfl) (p_cons (p_frac (a := (1, 2)) (x := 1) (y := 2) (by walk_at "ev") rfl) (p_cons (p_frac (a := (1, 1)) (x := 1) (y := 1) (by walk_at "ev") rfl) (p_cons (p_frac (a := (2, 1)) (x := 2) (y := 1) (by walk_at "ev") rfl) (p_cons (p_frac (a := (0, 1)) (x := 0) (y := 1) (by walk_at "ev") rfl) a_nil))))) (.cons (.cons (.cons (.cons (.cons .nil))))) (show 5 ≤ 100000 by decide)) (e_draw (R := RTake) (ds := [.i 5]) (C := C2) (by walk_at "ev") ⟨_, rfl, oc2, by decide, z9 _ (by decide), rfl, rfl⟩ (hfq _ _)) hg)⟩
    obtain ⟨gr, C3⟩ := z
    obtain ⟨oc3, g1, g2⟩ := hz
    replace oc3 : DOk C3 := oc3
    replace g1 : Sm 2 2 gr := g1
    -- speed
    refine s_seqX (α := (F × F) × DS) (fun z => DOk z.2 ∧ Sm 6 6 z.1.1 ∧ Sm 6 6 z.1.2 ∧ (decide (0 < ms) || PyData.eqv (vcd z.1.1 z.1.2) (vcd (0, 1) (0, 1))) = true) (fun z => [some (.r p), some (.i (many : Nat)), some (.i fixed), some (.r q1), some (.r q2), some (.i a.nm), some (.i (i : Nat)), some (.d (bxd b)), some (.i ms), some (.d (fr gr)), some (.d (vcd z.1.1 z.1.2)), none]) (fun z => (dJ K p z.2 (lJ K q1 (a.bs.map bdD) (lJ K q2 (a.bs.map fun b => bxd b.bx) J)))) ?_ fun z hz => ?_
    · obtain ⟨o1, t1, t2⟩ := take_ok (C := C3) (m := 4) oc3 (by decide)
      obtain ⟨o2, v0, v1⟩ := vec_sm (C := (take C3 4).2) (m := 3) o1 (by decide)
      by_cases c1 : 0 < ms
      · by_cases c2 : 0 < (take C3 4).1
        · exact ⟨vecM (take C3 4).2 3, ⟨o2, v0, v1, by rw [decide_eq_true c1]; rfl⟩, s_asg (e_ifT (t_andT (t_is (p_test (p_gt (i := ms) (j := 0) (e_var rfl) e_int)) (decide_eq_true c1)) (t_is (t_test (e_gt (i := (take C3 4).1) (j := 0) (e_draw (R := RTake) (ds := [.i 4]) (C := C3) (by walk_at "ev") ⟨_, rfl, oc3, by decide, z9 _ (by decide), rfl, rfl⟩ (hfq _ _)) e_int)) (decide_eq_true c2))) (e_draw (R := RVec) (ds := [.i 3]) (by walk_at "ev") ⟨_, rfl, o1, by decide, sz_le (m := 3) (by decide) (by decide), rfl, rfl⟩ (hfq _ _)))⟩
        · exact ⟨(((0, 1), (0, 1)), (take C3 4).2), ⟨o1, sm_c0, sm_c0, by rw [decide_eq_true c1]; rfl⟩, s_asg (e_ifF (t_andT (t_is (p_test (p_gt (i := ms) (j := 0) (e_var rfl) e_int)) (decide_eq_true c1)) (t_is (t_test (e_gt (i := (take C3 4).1) (j := 0) (e_draw (R := RTake) (ds := [.i 4]) (C := C3) (by walk_at "ev") ⟨_, rfl, oc3, by decide, z9 _ (by decide), rfl, rfl⟩ (hfq _ _)) e_int)) (decide_eq_false c2))) (p_tup2 (p_cons (p_frac (a := (0, 1)) (x := 0) (y := 1) (by walk_at "ev") rfl) (p_cons (p_frac (a := (0, 1)) (x := 0) (y := 1) (by walk_at "ev") rfl) a_nil))))⟩
      · exact ⟨(((0, 1), (0, 1)), C3), ⟨oc3, sm_c0, sm_c0, by rw [show PyData.eqv (vcd (0, 1) (0, 1)) (vcd (0, 1) (0, 1)) = true from eqv_v (0, 1) (0, 1), Bool.or_true]⟩, s_asg (e_ifF (t_andF (t_is (p_test (p_gt (i := ms) (j := 0) (e_var rfl) e_int)) (decide_eq_false c1))) (p_tup2 (p_cons (p_frac (a := (0, 1)) (x := 0) (y := 1) (by walk_at "ev") rfl) (p_cons (p_frac (a := (0, 1)) (x := 0) (y := 1) (by walk_at "ev") rfl) a_nil))))⟩
    obtain ⟨⟨v0, v1⟩, C4⟩ := z
    obtain ⟨oc4, w0, w1, w2⟩ := hz
    replace oc4 : DOk C4 := oc4
    replace w0 : Sm 6 6 v0 := w0
    replace w1 : Sm 6 6 v1 := w1
    have hlA : (a.bs.map bdD).length < 100000 := by rw [List.length_map]; omega
    have hlB : (a.bs.map fun b => bxd b.bx).length < 100000 := by rw [List.length_map]; omega
    refine s_seq (s_appD (x := bdD ⟨a.nm, b, ms, gr, v0, v1⟩) (p_tup (ds := [.i a.nm, .t [fr b.p0, fr b.p1], .t [fr b.s0, fr b.s1], .i ms, .d (fr gr), .d (vcd v0 v1)]) (p_cons (e_var rfl) (p_cons (p_i0 (e_var rfl)) (p_cons (p_i1 (e_var rfl)) (p_cons (e_var rfl) (p_cons (e_var rfl) (p_cons (e_var rfl) a_nil)))))) (.cons (.cons (.cons (.cons (.cons (.cons .nil)))))) (show 6 ≤ 100000 by decide)) rfl hlA (fun z => by
      rcases z with z | z
      · exact p12 z.symm
      · exact n1 z) p1) ?_
    refine s_pre (I' := dJ K p C4 (lJ K q2 (a.bs.map fun b => bxd b.bx) (lJ K q1 (a.bs.map bdD ++ [bdD ⟨a.nm, b, ms, gr, v0, v1⟩]) J))) (fun G H z => ⟨z.1, z.2.2.1, z.2.1, z.2.2.2⟩) ?_
    refine s_seq (s_appD (x := bxd b) (e_var rfl) rfl hlB (fun z => by
      rcases z with z | z
      · exact p12 z
      · exact n2 z) p2) ?_
    refine s_pre (I' := dJ K p C4 (lJ K q1 (a.bs.map bdD ++ [bdD ⟨a.nm, b, ms, gr, v0, v1⟩]) (lJ K q2 ((a.bs.map fun b => bxd b.bx) ++ [bxd b]) J))) (fun G H z => ⟨z.1, z.2.2.1, z.2.1, z.2.2.2⟩) ?_
    obtain ⟨oc5, t1, t2⟩ := take_ok (C := C4) (m := 3) oc4 (by decide)
    have hsnd : soundM ⟨a.nm, b, ms, gr, v0, v1⟩ = true := by
      unfold soundM
      dsimp only
      rw [hs, g2, w2, decide_eq_false (show ¬ ms < 0 by omega), decide_eq_false (show ¬ 1000 < ms by omega)]
      rfl
    refine s_ne (ρ1 := [some (.r p), some (.i (many : Nat)), some (.i fixed), some (.r q1), some (.r q2), some (.i (a.nm + 1 + (take C4 3).1)), none, none, none, none, none, none]) (J := dJ K p (take C4 3).2 (lJ K q1 (a.bs.map bdD ++ [bdD ⟨a.nm, b, ms, gr, v0, v1⟩]) (lJ K q2 ((a.bs.map fun b => bxd b.bx) ++ [bxd b]) J))) (s_lessN (ρ' := [some (.r p), some (.i (many : Nat)), some (.i fixed), some (.r q1), some (.r q2), some (.i (a.nm + 1 + (take C4 3).1)), some (.i (i : Nat)), some (.d (bxd b)), some (.i ms), some (.d (fr gr)), some (.d (vcd v0 v1)), none]) ⟨.inr rfl, .inr rfl, .inr rfl, .inr rfl, .inr rfl, .inr rfl, .inl rfl, .inl rfl, .inl rfl, .inl rfl, .inl rfl, .inr rfl, trivial⟩ (s_asg (e_add (p_add (e_var rfl) e_int) (e_draw (R := RTake) (ds := [.i 3]) (C := C4) (by walk_at "ev") ⟨_, rfl, oc4, by decide, z9 _ (by decide), rfl, rfl⟩ (hfq _ _))))) ⟨⟨a.bs ++ [⟨a.nm, b, ms, gr, v0, v1⟩], a.nm + 1 + (take C4 3).1, (take C4 3).2⟩, ⟨oc5, ?_, fun _ e => ?_, fun o ho => ?_, ?_, ?_, ?_, ?_⟩, rfl, ?_⟩
    · show (a.bs ++ [_]).length ≤ i + 1
      rw [List.length_append, List.length_singleton]
      omega
    · simp at e
    · rcases List.mem_append.mp ho with ho | ho
      · refine ⟨(hB o ho).1.mono (by omega), ?_⟩
        have := (hB o ho).2
        show o.nm < a.nm + 1 + _
        omega
      · rw [List.mem_singleton.mp ho]
        refine ⟨⟨hb, hs, g1, w0, w1, ms4⟩, ?_⟩
        show a.nm < a.nm + 1 + _
        omega
    · show 0 ≤ a.nm + 1 + _
      omega
    · show a.nm + 1 + _ ≤ 2 + 3 * ((i + 1 : Nat) : Int)
      omega
    · exact badB_snoc hbad (fun o ho => (hB o ho).2) (by show -1 < a.nm; omega) (by show a.nm ≤ _; omega) hsnd
    · show ovB ((a.bs ++ [(⟨a.nm, b, ms, gr, v0, v1⟩ : Bd)]).map (fun z => z.bx)) = false
      rw [List.map_append]
      exact ovB_snoc hov fun o ho => by
        obtain ⟨z, hz, rfl⟩ := List.mem_map.mp ho
        exact hno z hz
    · show dJ K p (take C4 3).2 _ = dJ K p (take C4 3).2 _
      rw [List.map_append, List.map_append]
      rfl
theorem fok_law_told (Tp : Top K mg base) : FnOk P w K mg base CX0 7 Tp.f_law_told Tp.d_law_told ["which", "state", "a", "b", "c"] (spT K Tp.tabs RTold43) := by
  have G_play := fok_play (P := P) (w := w) (base := base) Tp
  have G_posed := fok_posed (P := P) (w := w) (base := base) Tp
  have G_law_class := fok_law_class (P := P) (w := w) (base := base) Tp
  refine Tp.F_law_told.ok sc_law_told (fun vs H Q E h => len_P (fun _ _ ⟨_, _, e⟩ => by rcases e with ⟨_, _, _, e, _⟩ | ⟨_, e, _⟩ <;> rw [e] <;> rfl) h) (fun cdv A outer s H vs Q E hr h => ?_)
  refine ⟨_, (pss_cons (PX.tryAs (i := 6) rfl rfl sc_law_told.nd rfl rfl ⟨rfl, by decide, .inl Tp.gc_SteadyError⟩ takes0 (fun W pn xe tk _ => (pss_one (ps_set (i := 5) sc_law_told.nd rfl (.inl rfl) (pe_ifExp (pt_cmpR op_eq (pv 0) pe_int (nomark _)) (pe_callS G_play (hr.mono (by decide)) (by rfl) Tp.g_play Tp.F_play.kp Tp.b_play (fun σ => passAt tk σ) (pa_cons (pv 1) (pa_cons (pv 2) (pa_cons (pv 3) (pa_cons (pv 4) pa_nil))))) (pe_callS G_posed (hr.mono (by decide)) (by rfl) Tp.g_posed Tp.F_posed.kp Tp.b_posed (fun σ => passAt tk σ) (pa_cons (pv 1) (pa_cons (pv 2) pa_nil))))))) (fun a oe cls d pn hz hf => (pss_one (ps_ret (PX.pe_callP G_law_class (hr.mono (by decide)) hz hf (by rfl) Tp.g_law_class Tp.F_law_class.kp Tp.b_law_class (pa_cons (pv 6) pa_nil))))))
      (pss_one (ps_ret (pv 5)))), body_T ?_ h⟩
  refine fun ds d r I hT => ?_
  obtain ⟨st, hg, r⟩ := r
  rcases r with ⟨a, b, k, rfl, r⟩ | ⟨pl, rfl, hl, hp, r⟩
  · walk_at "norm"
    rcases r with ⟨h, rfl⟩ | ⟨ha, hb, hk, rfl⟩ | ⟨ha, hb, hk, rfl⟩
    · exact s_stop (s_tryXAs (C := Tp.c_IdError) (ρx := [some (.i 0), some (.d (stD st)), some (.i a), some (.i b), some (.i k), none, none]) (Jx := I) (PySem.W.exm_ref Tp.bc_SteadyError Tp.hc_SteadyError Tp.tc_SteadyError Tp.ac_IdError_SteadyError) (fun a_ => s_ret (e_callP (R := (RCls4 Tp.c_IdError Tp.c_AxisError Tp.c_JointError Tp.c_OverlapError)) (by walk_at "ev") (Or.inl ⟨rfl, rfl⟩))) fun W G0 hW => s_asgE (e_ifT (t_is (p_test (p_eqI (i := 0) (j := 0) (e_var rfl) e_int)) rfl) (e_callSE (tabs := Tp.tabs) (R := (RPlay Tp.c_IdError Tp.c_AxisError)) (ds := [.d (stD st), .i a, .i b, .i k]) (d := .d .none) (L := .no) (J := I.and (Asn.frm G0)) (by walk_at "ev") ⟨st, a, b, k, rfl, hg, .inl ⟨h, rfl⟩⟩ fun G H σ gh en j => hW G H σ j.2 gh en j.1)) fun _ _ z => z)
    · exact s_stop (s_tryXAs (C := Tp.c_AxisError) (ρx := [some (.i 0), some (.d (stD st)), some (.i a), some (.i b), some (.i k), none, none]) (Jx := I) (PySem.W.exm_ref Tp.bc_SteadyError Tp.hc_SteadyError Tp.tc_SteadyError Tp.ac_AxisError_SteadyError) (fun a_ => s_ret (e_callP (R := (RCls4 Tp.c_IdError Tp.c_AxisError Tp.c_JointError Tp.c_OverlapError)) (by walk_at "ev") (Or.inr <| Or.inl ⟨rfl, rfl⟩))) fun W G0 hW => s_asgE (e_ifT (t_is (p_test (p_eqI (i := 0) (j := 0) (e_var rfl) e_int)) rfl) (e_callSE (tabs := Tp.tabs) (R := (RPlay Tp.c_IdError Tp.c_AxisError)) (ds := [.d (stD st), .i a, .i b, .i k]) (d := .d .none) (L := .no) (J := I.and (Asn.frm G0)) (by walk_at "ev") ⟨st, a, b, k, rfl, hg, .inr (.inl ⟨ha, hb, hk, rfl⟩)⟩ fun G H σ gh en j => hW G H σ j.2 gh en j.1)) fun _ _ z => z)
    · exact s_seq (ρ1 := [some (.i 0), some (.d (stD st)), some (.i a), some (.i b), some (.i k), some (.d (playM st a b k)), none]) (J := I) (s_tryN fun W => p_asg (e_ifT (t_is (p_test (p_eqI (i := 0) (j := 0) (e_var rfl) e_int)) rfl) (e_callSX (tabs := Tp.tabs) (R := (RPlay Tp.c_IdError Tp.c_AxisError)) (ds := [.d (stD st), .i a, .i b, .i k]) (d := .d (playM st a b k)) (by walk_at "ev") ⟨st, a, b, k, rfl, hg, .inr (.inr ⟨ha, hb, hk, rfl⟩)⟩))) (p_ret (e_var rfl))
  · walk_at "norm"
    rcases r with ⟨hb, rfl⟩ | ⟨hb, r⟩
    · exact s_stop (s_tryXAs (C := Tp.c_IdError) (ρx := [some (.i 1), some (.d (stD st)), some (.u (pl.map plD)), some (.i 0), some (.i 0), none, none]) (Jx := I) (PySem.W.exm_ref Tp.bc_SteadyError Tp.hc_SteadyError Tp.tc_SteadyError Tp.ac_IdError_SteadyError) (fun a_ => s_ret (e_callP (R := (RCls4 Tp.c_IdError Tp.c_AxisError Tp.c_JointError Tp.c_OverlapError)) (by walk_at "ev") (Or.inl ⟨rfl, rfl⟩))) fun W G0 hW => s_asgE (e_ifF (t_is (p_test (p_eqI (i := 1) (j := 0) (e_var rfl) e_int)) rfl) (e_callSE (tabs := Tp.tabs) (R := (RPosed Tp.c_IdError Tp.c_OverlapError Tp.c_JointError)) (ds := [.d (stD st), .u (pl.map plD)]) (d := .d .none) (L := .no) (J := I.and (Asn.frm G0)) (by walk_at "ev") ⟨st, pl, rfl, hg, hl, hp, .inl ⟨hb, rfl⟩⟩ fun G H σ gh en j => hW G H σ j.2 gh en j.1)) fun _ _ z => z)
    rcases r with ⟨h, rfl⟩ | ⟨h, rfl⟩ | ⟨h, rfl⟩
    · exact s_seq (ρ1 := [some (.i 1), some (.d (stD st)), some (.u (pl.map plD)), some (.i 0), some (.i 0), some (.d (stD (newS st pl))), none]) (J := I) (s_tryN fun W => p_asg (e_ifF (t_is (p_test (p_eqI (i := 1) (j := 0) (e_var rfl) e_int)) rfl) (e_callSX (tabs := Tp.tabs) (R := (RPosed Tp.c_IdError Tp.c_OverlapError Tp.c_JointError)) (ds := [.d (stD st), .u (pl.map plD)]) (d := .d (stD (newS st pl))) (by walk_at "ev") ⟨st, pl, rfl, hg, hl, hp, .inr ⟨hb, .inl ⟨h, rfl⟩⟩⟩))) (p_ret (e_var rfl))
    · exact s_stop (s_tryXAs (C := Tp.c_OverlapError) (ρx := [some (.i 1), some (.d (stD st)), some (.u (pl.map plD)), some (.i 0), some (.i 0), none, none]) (Jx := I) (PySem.W.exm_ref Tp.bc_SteadyError Tp.hc_SteadyError Tp.tc_SteadyError Tp.ac_OverlapError_SteadyError) (fun a_ => s_ret (e_callP (R := (RCls4 Tp.c_IdError Tp.c_AxisError Tp.c_JointError Tp.c_OverlapError)) (by walk_at "ev") (Or.inr <| Or.inr <| Or.inr ⟨rfl, rfl⟩))) fun W G0 hW => s_asgE (e_ifF (t_is (p_test (p_eqI (i := 1) (j := 0) (e_var rfl) e_int)) rfl) (e_callSE (tabs := Tp.tabs) (R := (RPosed Tp.c_IdError Tp.c_OverlapError Tp.c_JointError)) (ds := [.d (stD st), .u (pl.map plD)]) (d := .d .none) (L := .no) (J := I.and (Asn.frm G0)) (by walk_at "ev") ⟨st, pl, rfl, hg, hl, hp, .inr ⟨hb, .inr (.inl ⟨h, rfl⟩)⟩⟩ fun G H σ gh en j => hW G H σ j.2 gh en j.1)) fun _ _ z => z)
    · exact s_stop (s_tryXAs (C := Tp.c_JointError) (ρx := [some (.i 1), some (.d (stD st)), some (.u (pl.map plD)), some (.i 0), some (.i 0), none, none]) (Jx := I) (PySem.W.exm_ref Tp.bc_SteadyError Tp.hc_SteadyError Tp.tc_SteadyError Tp.ac_JointError_SteadyError) (fun a_ => s_ret (e_callP (R := (RCls4 Tp.c_IdError Tp.c_AxisError Tp.c_JointError Tp.c_OverlapError)) (by walk_at "ev") (Or.inr <| Or.inr <| Or.inl ⟨rfl, rfl⟩))) fun W G0 hW => s_asgE (e_ifF (t_is (p_test (p_eqI (i := 1) (j := 0) (e_var rfl) e_int)) rfl) (e_callSE (tabs := Tp.tabs) (R := (RPosed Tp.c_IdError Tp.c_OverlapError Tp.c_JointError)) (ds := [.d (stD st), .u (pl.map plD)]) (d := .d .none) (L := .no) (J := I.and (Asn.frm G0)) (by walk_at "ev") ⟨st, pl, rfl, hg, hl, hp, .inr ⟨hb, .inr (.inr ⟨h, rfl⟩)⟩⟩ fun G H σ gh en j => hW G H σ j.2 gh en j.1)) fun _ _ z => z)
theorem fok_law_posed (Tp : Top K mg base) : FnOk P w K mg base CX0 7 Tp.f_law_posed Tp.d_law_posed ["state", "places"] (spP K RLPosed) := by
  have G_law_minus := fok_law_minus (P := P) (w := w) (base := base) Tp
  have G_law_less := fok_law_less (P := P) (w := w) (base := base) Tp
  have G_law_over := fok_law_over (P := P) (w := w) (base := base) Tp
  refine Tp.F_law_posed.ok sc_law_posed (fun vs H Q E h => len_P (fun _ _ ⟨_, _, e, _⟩ => by rw [e]; rfl) h) (fun cdv A outer s H vs Q E hr h => ?_)
  refine ⟨_, (pss_cons (ps_set (i := 2) sc_law_posed.nd rfl (.inr rfl) pe_dnewK)
      (pss_cons (ps_for PassesOwn.never rfl (pi_list (pv 1)) (pg_tup rfl (pgs_cons (pg_name (i := 3) sc_law_posed.nd rfl (.inl rfl)) (pgs_cons (pg_name (i := 4) sc_law_posed.nd rfl (.inl rfl)) pgs_nil))) (pss_one (ps_dput (hu_of hr) (pv 2) (pv 3) (pv 4) rfl)))
      (pss_cons (ps_set (i := 6) sc_law_posed.nd rfl (.inr rfl) (pe_callTy call_tuple_of (by rfl) Tp.n_tuple (by decide +kernel) (pa_cons (pe_lc (own := [("body", 5)]) (g := gName 5) (tt := tYes) rfl sc_law_posed.nd (pi_tup (pe_ix (r := rIxT K) ix_tup (pv 0) pe_int (fun _ _ => rfl))) (blkOk_by (N := ["state", "places", "table", "name", "place", "body", "bodies", "i", "other", "spots", "one", "axis", "low", "high", "apart"]) (sc := defScope s_law_posed) (by decide +kernel)) (fun _ _ _ _ _ => pg_name (i := 5) sc_law_posed.nd rfl (Or.inl rfl)) (fun _ _ _ _ _ => pts_nil) (fun _ _ _ _ _ => (pe_op (r := rCatA K) op_catA (pe_tup (pa_cons (pe_ix (r := rIxT K) ix_tup (pv 5) pe_int (fun _ _ => rfl)) (pa_cons (pe_dget2 (hu_of hr) (pv 2) (pe_ix (r := rIxT K) ix_tup (pv 5) pe_int (fun _ _ => rfl)) (pe_ix (r := rIxT K) ix_tup (pv 5) pe_int (fun _ _ => rfl)) ⟨rfl, rfl, rfl, rfl⟩) pa_nil))) (pe_slice (r := rSlA K) sl_tupA (pv 5) (po_some pe_int) po_none)))) pa_nil)))
      (pss_cons (ps_for PassesOwn.never rfl (pi_range1 (by rfl) Tp.n_range (pa_cons (pe_callB call_len_seq (by rfl) Tp.n_len (by decide +kernel) (pa_cons (pv 6) pa_nil)) pa_nil)) (pg_name (i := 7) sc_law_posed.nd rfl (.inr rfl)) (pss_one (ps_if (pt_val (pe_callB (cr_any rfl) (by rfl) Tp.n_any (by decide +kernel) (pa_cons (pe_lc (own := [("other", 8)]) (g := gName 8) (tt := tYes) rfl sc_law_posed.nd (pi_tup (pe_slice (r := rSlA K) sl_tupA (pv 6) po_none (po_some (pv 7)))) (blkOk_by (N := ["state", "places", "table", "name", "place", "body", "bodies", "i", "other", "spots", "one", "axis", "low", "high", "apart"]) (sc := defScope s_law_posed) (by decide +kernel)) (fun _ _ _ _ _ => pg_name (i := 8) sc_law_posed.nd rfl (Or.inl rfl)) (fun _ _ _ _ _ => pts_nil) (fun _ _ _ _ _ => (pe_call G_law_over (hr.mono (by decide)) (by rfl) Tp.g_law_over Tp.F_law_over.kp Tp.b_law_over .nil pass0 (pa_cons (pe_tup (pa_cons (pe_ix (r := rIxT K) ix_tup (pe_ix (r := rIxT K) ix_tup (pv 6) (pv 7) (fun _ _ => rfl)) pe_int (fun _ _ => rfl)) (pa_cons (pe_ix (r := rIxT K) ix_tup (pe_ix (r := rIxT K) ix_tup (pv 6) (pv 7) (fun _ _ => rfl)) pe_int (fun _ _ => rfl)) pa_nil))) (pa_cons (pe_tup (pa_cons (pe_ix (r := rIxT K) ix_tup (pv 8) pe_int (fun _ _ => rfl)) (pa_cons (pe_ix (r := rIxT K) ix_tup (pv 8) pe_int (fun _ _ => rfl)) pa_nil))) pa_nil))))) pa_nil))) (pss_one (ps_ret pe_str)) pss_nil)))
      (pss_cons (ps_set (i := 9) sc_law_posed.nd rfl (.inl rfl) pe_dnewK)
      (pss_cons (ps_for PassesOwn.never rfl (pi_tup (pv 6)) (pg_name (i := 5) sc_law_posed.nd rfl (.inl rfl)) (pss_one (ps_dput (hu_of hr) (pv 9) (pe_ix (r := rIxT K) ix_tup (pv 5) pe_int (fun _ _ => rfl)) (pe_ix (r := rIxT K) ix_tup (pv 5) pe_int (fun _ _ => rfl)) rfl)))
      (pss_cons (ps_for PassesOwn.never rfl (pi_tup (pe_ix (r := rIxT K) ix_tup (pv 0) pe_int (fun _ _ => rfl))) (pg_tup rfl (pgs_cons (pg_name (i := 10) sc_law_posed.nd rfl (.inl rfl)) (pgs_cons (pg_name (i := 8) sc_law_posed.nd rfl (.inl rfl)) (pgs_cons (pg_name (i := 11) sc_law_posed.nd rfl (.inl rfl)) (pgs_cons (pg_name (i := 12) sc_law_posed.nd rfl (.inl rfl)) (pgs_cons (pg_name (i := 13) sc_law_posed.nd rfl (.inl rfl)) pgs_nil)))))) (pss_cons (ps_set (i := 14) sc_law_posed.nd rfl (.inl rfl) (pe_call G_law_minus (hr.mono (by decide)) (by rfl) Tp.g_law_minus Tp.F_law_minus.kp Tp.b_law_minus .nil pass0 (pa_cons (pe_ix (r := rIxT K) ix_tup (pe_dget (hu_of hr) (pv 9) (pv 8) (fun _ _ => rfl)) (pv 11) (fun _ _ => rfl)) (pa_cons (pe_ix (r := rIxT K) ix_tup (pe_dget (hu_of hr) (pv 9) (pv 10) (fun _ _ => rfl)) (pv 11) (fun _ _ => rfl)) pa_nil))))
      (pss_one (ps_if (PW.pt (pw_or (pt_val (pe_call G_law_less (hr.mono (by decide)) (by rfl) Tp.g_law_less Tp.F_law_less.kp Tp.b_law_less .nil pass0 (pa_cons (pv 14) (pa_cons (pv 12) pa_nil)))) (pw_or1 (pt_val (pe_call G_law_less (hr.mono (by decide)) (by rfl) Tp.g_law_less Tp.F_law_less.kp Tp.b_law_less .nil pass0 (pa_cons (pv 13) (pa_cons (pv 14) pa_nil))))))) (pss_one (ps_ret pe_str)) pss_nil))))
      (pss_one (ps_ret (pe_tup (pa_cons (pv 6) (pa_cons (pe_ix (r := rIxT K) ix_tup (pv 0) pe_int (fun _ _ => rfl)) (pa_cons (pe_ix (r := rIxT K) ix_tup (pv 0) pe_int (fun _ _ => rfl)) pa_nil))))))))))))), body_P ?_ h⟩
  refine fun ds d r I => ?_
  obtain ⟨st, pl, rfl, hg, hlp, nd, hp, rfl⟩ := r
  walk_at "norm"
  have l1 := hg.len.1
  refine s_newK fun q hq => ?_
  refine s_loopR (α := List Pl) (bs := pl) (f := fun _ z => plD z) (fun i rest a => pl = a ++ rest) (fun _ => [some (.d (stD st)), some (.d (.list (pl.map plD))), some (.r q), none, none, none, none, none, none, none, none, none, none, none, none]) (fun a => kJ K q ((a.map plP).map prK) I) [] rfl (iw_l (e_var rfl)) (by rw [List.length_map]) (fun i z h => at0_map h) rfl (fun i z rest a hw => ?_) fun a i hw => ?_
  · refine ⟨_, g_tup rfl (g_cons g_name (g_cons g_name g_nil)), .inl ⟨a ++ [z], by rw [hw]; simp, ?_⟩⟩
    have nn : (.inl z.1 : Key) ∉ ((a.map plP).map prK).map (·.1) := fun m => by
      rw [List.map_map, List.map_map] at m
      obtain ⟨y, hy, e⟩ := List.mem_map.mp m
      have e : (Sum.inl y.1 : Key) = .inl z.1 := e
      rw [hw, List.map_append, List.nodup_append] at nd
      exact nd.2.2 y.1 (List.mem_map.mpr ⟨y, hy, rfl⟩) z.1 (by simp) (by injection e)
    have la : a.length ≤ pl.length := by
      have := congrArg List.length hw
      rw [List.length_append] at this
      omega
    refine s_lessN (ρ' := [some (.d (stD st)), some (.d (.list (pl.map plD))), some (.r q), some (.i z.1), some (.d (vcd z.2.1 z.2.2)), none, none, none, none, none, none, none, none, none, none]) ⟨.inr rfl, .inr rfl, .inr rfl, .inl rfl, .inl rfl, .inl rfl, .inl rfl, .inl rfl, .inl rfl, .inl rfl, .inl rfl, .inl rfl, .inl rfl, .inl rfl, .inl rfl, trivial⟩ ?_
    refine s_is (s_putK (x := vcd z.2.1 z.2.2) (e_var rfl) rfl (e_var rfl) nn (by rw [List.length_map, List.length_map]; omega) hq) ?_
    rw [List.map_append, List.map_append]
    rfl
  rw [List.append_nil] at hw
  subst hw
  refine s_freezeK (i := 2) rfl hq ?_
  refine q_asg (d := .t ((st.bs.map (mvB pl)).map bdD)) (e_tupOf (p_cons (e_lcW (es := (st.bs.map (mvB pl)).map bdD) (iw_t (p_i0 (e_var rfl))) (by simp) (by rw [List.length_map]; omega) fun i y hi hy => ?_) a_nil)) ?_
  · rw [List.map_map] at hy
    obtain ⟨z, hz, rfl⟩ := getElem?_of_map hy
    rw [at0_map hz]
    exact ⟨_, w_name (by decide), fun I' => e_is (e_catT (xs := [.int z.nm, posG pl z]) (ys := [.tuple [fr z.bx.s0, fr z.bx.s1], .int z.ms, fr z.gr, .tuple [fr z.v0, fr z.v1]]) (e_tup (a_cons (p_i0 (e_var rfl)) (a_cons (e_kGetOr (kvs := (pl.map plP).map prK) (n := z.nm) (y := vcd z.bx.p0 z.bx.p1) (e_var rfl) (p_i0 (e_var rfl)) (p_i1 (e_var rfl)) (pl_get pl z)) a_nil)) (.cons (.cons .nil)) (show 2 ≤ 100000 by decide)) (e_is (e_tFrom (j := 2) (ds := [.int z.nm, .tuple [fr z.bx.p0, fr z.bx.p1], .tuple [fr z.bx.s0, fr z.bx.s1], .int z.ms, fr z.gr, .tuple [fr z.v0, fr z.v1]]) (e_var rfl) e_int) rfl) (show 6 ≤ 100000 by decide)) (by rw [posG_eq]; rfl)⟩
  have hbx : ∀ b ∈ (newS st pl).bs, BdOk b := (new_ok hg hp).bs
  have lb : (newS st pl).bs.length ≤ 24 := by
    show (st.bs.map (mvB pl)).length ≤ 24
    rw [List.length_map]
    exact l1
  have jts : ∀ j ∈ st.js, ∃ x y, fnd (newS st pl).bs j.a = some x ∧ fnd (newS st pl).bs j.b = some y ∧ (j.k = 0 ∨ j.k = 1) ∧ PL.Ok 20 j.lo ∧ PL.Ok 20 j.hi ∧ jbad (newS st pl).bs j = (less (wayM x y j.k) j.lo || less j.hi (wayM x y j.k)) := fun j hj => new_jt hg hp hj
  have nds : ((newS st pl).bs.map (·.nm)).Nodup := by rw [new_nms]; exact asc_nodup hg.up
  rw [posed_eq hg]
  have eS : stD (newS st pl) = .tuple [.tuple ((newS st pl).bs.map bdD), .tuple (st.js.map jtD), vcd st.u0 st.u1] := rfl
  rw [eS]
  show S K _ [some (.d (stD st)), some (.d (.list (pl.map plD))), some (.k ((pl.map plP).map prK)), none, none, none, some (.t ((newS st pl).bs.map bdD)), none, none, none, none, none, none, none, none] I _
  generalize (newS st pl).bs = bs at hbx lb jts nds ⊢
  have snoc := fun (i : Nat) (x : Bd) (hx : bs[i]? = some x) => ovB_take hx
  cases ov : ovB (bs.map (·.bx)) with
  | true =>
    rw [if_pos rfl]
    refine s_loop (α := Unit) (fun i _ => ovB ((bs.take i).map (·.bx)) = false) (fun _ => [some (.d (stD st)), some (.d (.list (pl.map plD))), some (.k ((pl.map plP).map prK)), none, none, none, some (.t (bs.map bdD)), none, none, none, none, none, none, none, none]) (fun _ => I) () rfl (iw_r (n := bs.length) (p_cons (e_is (p_lenT (ds := bs.map bdD) (p_cons (e_var rfl) a_nil)) (by rw [List.length_map])) a_nil) (by omega)) rfl (fun i _ hi hw => ?_) fun _ hw => ?_
    · obtain ⟨x, hx⟩ : ∃ x, bs[i]? = some x := ⟨bs[i], List.getElem?_eq_getElem hi⟩
      have mx := List.mem_of_getElem? hx
      have hxm : (bs.map bdD)[i]? = some (bdD x) := by rw [List.getElem?_map, hx]; rfl
      cases c : (anyL bs i x).any id with
      | true =>
        refine ⟨_, g_name, .inr ⟨ret_rt, q_ifT (t_B (e_any (bs := anyL bs i x) (p_cons (e_lcW (es := (anyL bs i x).map PyData.bool) (iw_t (e_tTo (j := i) (ds := bs.map bdD) (e_var rfl) (e_var rfl))) (by rw [List.length_map, anyL_len, List.length_take, List.length_take, List.length_map]) (by rw [List.length_take, List.length_map]; omega) fun jj y hj hy => ?_) a_nil))) c (p_ret e_str)⟩⟩
        rw [List.length_take, List.length_map] at hj
        obtain ⟨o, ho⟩ : ∃ o, (bs.take i)[jj]? = some o := ⟨(bs.take i)[jj]'(by rw [List.length_take]; exact hj), List.getElem?_eq_getElem _⟩
        have mo : o ∈ bs := List.mem_of_mem_take (List.mem_of_getElem? ho)
        rw [anyL_at ho hy, ← List.map_take, at0_map ho]
        refine ⟨_, w_name (by decide), fun I' => e_is (p_call (R := ROverB) (ds := [.d (bxd x.bx), .d (bxd o.bx)]) (p_cons (p_tup2 (p_cons (p_i1 (e_ixT (j := i) (x := bdD x) (e_var rfl) (e_var rfl) hxm)) (p_cons (p_i2 (e_ixT (j := i) (x := bdD x) (e_var rfl) (e_var rfl) hxm)) a_nil))) (p_cons (p_tup2 (p_cons (p_i1 (e_var rfl)) (p_cons (p_i2 (e_var rfl)) a_nil))) a_nil)) ⟨x.bx, o.bx, rfl, (hbx x mx).bx, (hbx o mo).bx, rfl⟩) (by rw [← over_due (hbx x mx).bx (hbx o mo).bx])⟩
      | false =>
        refine ⟨_, g_name, .inl ⟨(), by rw [snoc i x hx, hw, c]; rfl, ?_⟩⟩
        refine s_lessN (ρ' := [some (.d (stD st)), some (.d (.list (pl.map plD))), some (.k ((pl.map plP).map prK)), none, none, none, some (.t (bs.map bdD)), some (.i (i : Nat)), none, none, none, none, none, none, none]) ⟨.inr rfl, .inr rfl, .inr rfl, .inl rfl, .inl rfl, .inl rfl, .inr rfl, .inl rfl, .inl rfl, .inl rfl, .inl rfl, .inl rfl, .inl rfl, .inl rfl, .inl rfl, trivial⟩ ?_
        refine q_ifF (t_B (e_any (bs := anyL bs i x) (p_cons (e_lcW (es := (anyL bs i x).map PyData.bool) (iw_t (e_tTo (j := i) (ds := bs.map bdD) (e_var rfl) (e_var rfl))) (by rw [List.length_map, anyL_len, List.length_take, List.length_take, List.length_map]) (by rw [List.length_take, List.length_map]; omega) fun jj y hj hy => ?_) a_nil))) c s_next
        rw [List.length_take, List.length_map] at hj
        obtain ⟨o, ho⟩ : ∃ o, (bs.take i)[jj]? = some o := ⟨(bs.take i)[jj]'(by rw [List.length_take]; exact hj), List.getElem?_eq_getElem _⟩
        have mo : o ∈ bs := List.mem_of_mem_take (List.mem_of_getElem? ho)
        rw [anyL_at ho hy, ← List.map_take, at0_map ho]
        refine ⟨_, w_name (by decide), fun I' => e_is (p_call (R := ROverB) (ds := [.d (bxd x.bx), .d (bxd o.bx)]) (p_cons (p_tup2 (p_cons (p_i1 (e_ixT (j := i) (x := bdD x) (e_var rfl) (e_var rfl) hxm)) (p_cons (p_i2 (e_ixT (j := i) (x := bdD x) (e_var rfl) (e_var rfl) hxm)) a_nil))) (p_cons (p_tup2 (p_cons (p_i1 (e_var rfl)) (p_cons (p_i2 (e_var rfl)) a_nil))) a_nil)) ⟨x.bx, o.bx, rfl, (hbx x mx).bx, (hbx o mo).bx, rfl⟩) (by rw [← over_due (hbx x mx).bx (hbx o mo).bx])⟩
    · rw [List.take_of_length_le (Nat.le_refl _), ov] at hw
      cases hw
  | false =>
    rw [if_neg (by decide)]
    refine s_loop (α := Unit) (fun i _ => ovB ((bs.take i).map (·.bx)) = false) (fun _ => [some (.d (stD st)), some (.d (.list (pl.map plD))), some (.k ((pl.map plP).map prK)), none, none, none, some (.t (bs.map bdD)), none, none, none, none, none, none, none, none]) (fun _ => I) () rfl (iw_r (n := bs.length) (p_cons (e_is (p_lenT (ds := bs.map bdD) (p_cons (e_var rfl) a_nil)) (by rw [List.length_map])) a_nil) (by omega)) rfl (fun i _ hi hw => ?_) fun _ hw => ?_
    · obtain ⟨x, hx⟩ : ∃ x, bs[i]? = some x := ⟨bs[i], List.getElem?_eq_getElem hi⟩
      have mx := List.mem_of_getElem? hx
      have hxm : (bs.map bdD)[i]? = some (bdD x) := by rw [List.getElem?_map, hx]; rfl
      have hw2 : ovB ((bs.take (i + 1)).map (·.bx)) = false := ovB_pre ov
      have c : (anyL bs i x).any id = false := by
        rw [snoc i x hx, Bool.or_eq_false_iff] at hw2
        exact hw2.2
      refine ⟨_, g_name, .inl ⟨(), hw2, ?_⟩⟩
      refine s_lessN (ρ' := [some (.d (stD st)), some (.d (.list (pl.map plD))), some (.k ((pl.map plP).map prK)), none, none, none, some (.t (bs.map bdD)), some (.i (i : Nat)), none, none, none, none, none, none, none]) ⟨.inr rfl, .inr rfl, .inr rfl, .inl rfl, .inl rfl, .inl rfl, .inr rfl, .inl rfl, .inl rfl, .inl rfl, .inl rfl, .inl rfl, .inl rfl, .inl rfl, .inl rfl, trivial⟩ ?_
      refine q_ifF (t_B (e_any (bs := anyL bs i x) (p_cons (e_lcW (es := (anyL bs i x).map PyData.bool) (iw_t (e_tTo (j := i) (ds := bs.map bdD) (e_var rfl) (e_var rfl))) (by rw [List.length_map, anyL_len, List.length_take, List.length_take, List.length_map]) (by rw [List.length_take, List.length_map]; omega) fun jj y hj hy => ?_) a_nil))) c s_next
      rw [List.length_take, List.length_map] at hj
      obtain ⟨o, ho⟩ : ∃ o, (bs.take i)[jj]? = some o := ⟨(bs.take i)[jj]'(by rw [List.length_take]; exact hj), List.getElem?_eq_getElem _⟩
      have mo : o ∈ bs := List.mem_of_mem_take (List.mem_of_getElem? ho)
      rw [anyL_at ho hy, ← List.map_take, at0_map ho]
      refine ⟨_, w_name (by decide), fun I' => e_is (p_call (R := ROverB) (ds := [.d (bxd x.bx), .d (bxd o.bx)]) (p_cons (p_tup2 (p_cons (p_i1 (e_ixT (j := i) (x := bdD x) (e_var rfl) (e_var rfl) hxm)) (p_cons (p_i2 (e_ixT (j := i) (x := bdD x) (e_var rfl) (e_var rfl) hxm)) a_nil))) (p_cons (p_tup2 (p_cons (p_i1 (e_var rfl)) (p_cons (p_i2 (e_var rfl)) a_nil))) a_nil)) ⟨x.bx, o.bx, rfl, (hbx x mx).bx, (hbx o mo).bx, rfl⟩) (by rw [← over_due (hbx x mx).bx (hbx o mo).bx])⟩
    clear hw
    refine s_newK fun q2 hq2 => ?_
    refine s_loopR (α := List Bd) (bs := bs) (f := fun _ b => bdD b) (fun i rest a => bs = a ++ rest) (fun _ => [some (.d (stD st)), some (.d (.list (pl.map plD))), some (.k ((pl.map plP).map prK)), none, none, none, some (.t (bs.map bdD)), none, none, some (.r q2), none, none, none, none, none]) (fun a => kJ K q2 (plcM a) I) [] rfl (iw_t (e_var rfl)) (by rw [List.length_map]) (fun i z h => at0_map h) rfl (fun i z rest a hw => ?_) fun a i hw => ?_
    · refine ⟨_, g_name, .inl ⟨a ++ [z], by rw [hw]; simp, ?_⟩⟩
      have ep : plcM (a ++ [z]) = plcM a ++ [(.inl z.nm, vcd z.bx.p0 z.bx.p1)] := plcM_snoc
      have nn : (.inl z.nm : Key) ∉ (plcM a).map (·.1) := fun m => by
        unfold plcM at m
        rw [kvs_keys (by rw [List.length_map, List.length_map])] at m
        obtain ⟨n, hn, e⟩ := List.mem_map.mp m
        have e : n = z.nm := by injection e
        rw [hw, List.map_append, List.nodup_append] at nds
        exact nds.2.2 n hn z.nm (by simp) e
      have la : a.length ≤ bs.length := by
        have := congrArg List.length hw
        rw [List.length_append] at this
        omega
      have lp : (plcM a).length ≤ a.length := by
        unfold plcM PL.kvsOf
        rw [List.length_map, List.length_zip, List.length_map, List.length_map]
        omega
      refine s_lessN (ρ' := [some (.d (stD st)), some (.d (.list (pl.map plD))), some (.k ((pl.map plP).map prK)), none, none, some (.d (bdD z)), some (.t (bs.map bdD)), none, none, some (.r q2), none, none, none, none, none]) ⟨.inr rfl, .inr rfl, .inr rfl, .inl rfl, .inl rfl, .inl rfl, .inr rfl, .inl rfl, .inl rfl, .inr rfl, .inl rfl, .inl rfl, .inl rfl, .inl rfl, .inl rfl, trivial⟩ ?_
      refine s_is (s_putK (x := vcd z.bx.p0 z.bx.p1) (p_i1 (e_var rfl)) rfl (p_i0 (e_var rfl)) nn (by omega) hq2) ?_
      rw [ep]
      rfl
    rw [List.append_nil] at hw
    subst hw
    refine s_freezeK (i := 9) rfl hq2 ?_
    have JT : ∀ j ∈ st.js, ∃ x y, fnd bs j.a = some x ∧ fnd bs j.b = some y ∧ (j.k = 0 ∨ j.k = 1) ∧ PL.Ok 20 j.lo ∧ PL.Ok 20 j.hi ∧ jbad bs j = (less (wayM x y j.k) j.lo || less j.hi (wayM x y j.k)) := jts
    cases jb : st.js.any (jbad bs) with
    | true =>
      rw [if_pos rfl]
      refine s_loopR (α := Unit) (bs := st.js) (f := fun _ z => jtD z) (fun _ rest _ => rest.any (jbad bs) = true ∧ ∀ z ∈ rest, z ∈ st.js) (fun _ => [some (.d (stD st)), some (.d (.list (pl.map plD))), some (.k ((pl.map plP).map prK)), none, none, none, some (.t (bs.map bdD)), none, none, some (.k (plcM bs)), none, none, none, none, none]) (fun _ => I) () ⟨jb, fun z hz => hz⟩ (iw_t (p_ixT (ds := [.tuple (st.bs.map bdD), .tuple (st.js.map jtD), vcd st.u0 st.u1]) (i := 1) (x := .tuple (st.js.map jtD)) (e_var (i := 0) rfl) e_int rfl)) (by rw [List.length_map]) (fun i z h => at0_map h) rfl (fun i j rest _ hw => ?_) fun _ i hw => (by cases hw.1)
      have mj := hw.2 j List.mem_cons_self
      obtain ⟨x, y, fa, fb, jk, oL, oH, eb⟩ := JT j mj
      have hw1 := hw.1
      rw [List.any_cons, eb] at hw1
      have ox : PL.Ok 1500 (posK x j.k) := posK_ok (hbx x (fnd_mem fa))
      have oy : PL.Ok 1500 (posK y j.k) := posK_ok (hbx y (fnd_mem fb))
      have oW : PL.Ok 4000 (wayM x y j.k) := way_ok (hbx x (fnd_mem fa)) (hbx y (fnd_mem fb))
      generalize eW : wayM x y j.k = W at hw1 oW
      cases c : (less W j.lo || less j.hi W) with
      | true =>
        refine ⟨_, g_tup rfl (g_cons g_name (g_cons g_name (g_cons g_name (g_cons g_name (g_cons g_name g_nil))))), .inr ⟨ret_rt, ?_⟩⟩
        refine q_asg (d := .d (fr W)) (e_is (p_call (R := RPlus lminus) (ds := [.d (fr (posK y j.k)), .d (fr (posK x j.k))]) (p_cons (p_ixT (ds := [fr y.bx.p0, fr y.bx.p1]) (i := j.k) (e_kGet (kvs := plcM bs) (n := j.b) (x := vcd y.bx.p0 y.bx.p1) (e_var rfl) (e_var rfl) (by rw [plc_get, fb]; rfl)) (e_var rfl) (pos_at jk)) (p_cons (p_ixT (ds := [fr x.bx.p0, fr x.bx.p1]) (i := j.k) (e_kGet (kvs := plcM bs) (n := j.a) (x := vcd x.bx.p0 x.bx.p1) (e_var rfl) (e_var rfl) (by rw [plc_get, fa]; rfl)) (e_var rfl) (pos_at jk)) a_nil)) (RPlus.mk oy ox)) (by rw [lminus_eq oy.nrm ox.nrm, ← way_pos, eW])) ?_
        exact q_ifT (t_or (t_B (p_call (R := RLess) (ds := [.d (fr W), .d (fr j.lo)]) (by walk_at "ev") ⟨_, _, rfl, oW.mono (by decide), oL.mono (by decide), rfl⟩)) fun _ => t_B (p_call (R := RLess) (ds := [.d (fr j.hi), .d (fr W)]) (by walk_at "ev") ⟨_, _, rfl, oH.mono (by decide), oW.mono (by decide), rfl⟩)) c (p_ret e_str)
      | false =>
        rw [c, Bool.false_or] at hw1
        refine ⟨_, g_tup rfl (g_cons g_name (g_cons g_name (g_cons g_name (g_cons g_name (g_cons g_name g_nil))))), .inl ⟨(), ⟨hw1, fun z hz => hw.2 z (List.mem_cons_of_mem _ hz)⟩, ?_⟩⟩
        refine s_lessN (ρ' := [some (.d (stD st)), some (.d (.list (pl.map plD))), some (.k ((pl.map plP).map prK)), none, none, none, some (.t (bs.map bdD)), none, some (.i j.b), some (.k (plcM bs)), some (.i j.a), some (.i j.k), some (.d (fr j.lo)), some (.d (fr j.hi)), some (.d (fr W))]) ⟨.inr rfl, .inr rfl, .inr rfl, .inl rfl, .inl rfl, .inl rfl, .inr rfl, .inl rfl, .inl rfl, .inr rfl, .inl rfl, .inl rfl, .inl rfl, .inl rfl, .inl rfl, trivial⟩ ?_
        refine q_asg (d := .d (fr W)) (e_is (p_call (R := RPlus lminus) (ds := [.d (fr (posK y j.k)), .d (fr (posK x j.k))]) (p_cons (p_ixT (ds := [fr y.bx.p0, fr y.bx.p1]) (i := j.k) (e_kGet (kvs := plcM bs) (n := j.b) (x := vcd y.bx.p0 y.bx.p1) (e_var rfl) (e_var rfl) (by rw [plc_get, fb]; rfl)) (e_var rfl) (pos_at jk)) (p_cons (p_ixT (ds := [fr x.bx.p0, fr x.bx.p1]) (i := j.k) (e_kGet (kvs := plcM bs) (n := j.a) (x := vcd x.bx.p0 x.bx.p1) (e_var rfl) (e_var rfl) (by rw [plc_get, fa]; rfl)) (e_var rfl) (pos_at jk)) a_nil)) (RPlus.mk oy ox)) (by rw [lminus_eq oy.nrm ox.nrm, ← way_pos, eW])) ?_
        exact q_ifF (t_or (t_B (p_call (R := RLess) (ds := [.d (fr W), .d (fr j.lo)]) (by walk_at "ev") ⟨_, _, rfl, oW.mono (by decide), oL.mono (by decide), rfl⟩)) fun _ => t_B (p_call (R := RLess) (ds := [.d (fr j.hi), .d (fr W)]) (by walk_at "ev") ⟨_, _, rfl, oH.mono (by decide), oW.mono (by decide), rfl⟩)) c s_next
    | false =>
      rw [if_neg (by decide)]
      refine s_loopR (α := Unit) (bs := st.js) (f := fun _ z => jtD z) (fun _ rest _ => rest.any (jbad bs) = false ∧ ∀ z ∈ rest, z ∈ st.js) (fun _ => [some (.d (stD st)), some (.d (.list (pl.map plD))), some (.k ((pl.map plP).map prK)), none, none, none, some (.t (bs.map bdD)), none, none, some (.k (plcM bs)), none, none, none, none, none]) (fun _ => I) () ⟨jb, fun z hz => hz⟩ (iw_t (p_ixT (ds := [.tuple (st.bs.map bdD), .tuple (st.js.map jtD), vcd st.u0 st.u1]) (i := 1) (x := .tuple (st.js.map jtD)) (e_var (i := 0) rfl) e_int rfl)) (by rw [List.length_map]) (fun i z h => at0_map h) rfl (fun i j rest _ hw => ?_) fun _ i hw => ?_
      · have mj := hw.2 j List.mem_cons_self
        obtain ⟨x, y, fa, fb, jk, oL, oH, eb⟩ := JT j mj
        have hw1 := hw.1
        rw [List.any_cons, eb] at hw1
        have ox : PL.Ok 1500 (posK x j.k) := posK_ok (hbx x (fnd_mem fa))
        have oy : PL.Ok 1500 (posK y j.k) := posK_ok (hbx y (fnd_mem fb))
        have oW : PL.Ok 4000 (wayM x y j.k) := way_ok (hbx x (fnd_mem fa)) (hbx y (fnd_mem fb))
        generalize eW : wayM x y j.k = W at hw1 oW
        cases c : (less W j.lo || less j.hi W) with
        | true =>
          rw [c] at hw1
          cases hw1
        | false =>
          rw [c, Bool.false_or] at hw1
          refine ⟨_, g_tup rfl (g_cons g_name (g_cons g_name (g_cons g_name (g_cons g_name (g_cons g_name g_nil))))), .inl ⟨(), ⟨hw1, fun z hz => hw.2 z (List.mem_cons_of_mem _ hz)⟩, ?_⟩⟩
          refine s_lessN (ρ' := [some (.d (stD st)), some (.d (.list (pl.map plD))), some (.k ((pl.map plP).map prK)), none, none, none, some (.t (bs.map bdD)), none, some (.i j.b), some (.k (plcM bs)), some (.i j.a), some (.i j.k), some (.d (fr j.lo)), some (.d (fr j.hi)), some (.d (fr W))]) ⟨.inr rfl, .inr rfl, .inr rfl, .inl rfl, .inl rfl, .inl rfl, .inr rfl, .inl rfl, .inl rfl, .inr rfl, .inl rfl, .inl rfl, .inl rfl, .inl rfl, .inl rfl, trivial⟩ ?_
          refine q_asg (d := .d (fr W)) (e_is (p_call (R := RPlus lminus) (ds := [.d (fr (posK y j.k)), .d (fr (posK x j.k))]) (p_cons (p_ixT (ds := [fr y.bx.p0, fr y.bx.p1]) (i := j.k) (e_kGet (kvs := plcM bs) (n := j.b) (x := vcd y.bx.p0 y.bx.p1) (e_var rfl) (e_var rfl) (by rw [plc_get, fb]; rfl)) (e_var rfl) (pos_at jk)) (p_cons (p_ixT (ds := [fr x.bx.p0, fr x.bx.p1]) (i := j.k) (e_kGet (kvs := plcM bs) (n := j.a) (x := vcd x.bx.p0 x.bx.p1) (e_var rfl) (e_var rfl) (by rw [plc_get, fa]; rfl)) (e_var rfl) (pos_at jk)) a_nil)) (RPlus.mk oy ox)) (by rw [lminus_eq oy.nrm ox.nrm, ← way_pos, eW])) ?_
          exact q_ifF (t_or (t_B (p_call (R := RLess) (ds := [.d (fr W), .d (fr j.lo)]) (by walk_at "ev") ⟨_, _, rfl, oW.mono (by decide), oL.mono (by decide), rfl⟩)) fun _ => t_B (p_call (R := RLess) (ds := [.d (fr j.hi), .d (fr W)]) (by walk_at "ev") ⟨_, _, rfl, oH.mono (by decide), oW.mono (by decide), rfl⟩)) c s_next
      exact p_ret (e_is (e_tup (ds := [.t (bs.map bdD), .t (st.js.map jtD), .d (vcd st.u0 st.u1)]) (xs := [.tuple (bs.map bdD), .tuple (st.js.map jtD), vcd st.u0 st.u1]) (a_cons (e_var rfl) (a_cons (p_ixT (ds := [.tuple (st.bs.map bdD), .tuple (st.js.map jtD), vcd st.u0 st.u1]) (i := 1) (x := .tuple (st.js.map jtD)) (e_var (i := 0) rfl) e_int rfl) (a_cons (p_ixT (ds := [.tuple (st.bs.map bdD), .tuple (st.js.map jtD), vcd st.u0 st.u1]) (i := 2) (x := vcd st.u0 st.u1) (e_var (i := 0) rfl) e_int rfl) a_nil))) (.cons (.cons (.cons .nil))) (show 3 ≤ 100000 by decide)) rfl)
theorem fok_law (Tp : Top K mg base) : FnOk P w K mg base CX0 8 Tp.f_law Tp.d_law ["script"] (spLawT K Tp.tabs) := by
  have G_law_begin := fok_law_begin (P := P) (w := w) (base := base) Tp
  have G_law_bodies := fok_law_bodies (P := P) (w := w) (base := base) Tp
  have G_law_take := fok_law_take (P := P) (w := w) (base := base) Tp
  have G_law_told := fok_law_told (P := P) (w := w) (base := base) Tp
  have G_law_joints := fok_law_joints (P := P) (w := w) (base := base) Tp
  have G_limbs := fok_limbs (P := P) (w := w) (base := base) Tp
  have G_law_groups := fok_law_groups (P := P) (w := w) (base := base) Tp
  have G_law_posed := fok_law_posed (P := P) (w := w) (base := base) Tp
  have G_law_ends := fok_law_ends (P := P) (w := w) (base := base) Tp
  have G_law_plus := fok_law_plus (P := P) (w := w) (base := base) Tp
  have G_law_part := fok_law_part (P := P) (w := w) (base := base) Tp
  have G_law_f := fok_law_f (P := P) (w := w) (base := base) Tp
  have G_law_signed := fok_law_signed (P := P) (w := w) (base := base) Tp
  refine Tp.F_law.ok sc_law (fun vs H Q E h => len_LT h) (fun cdv A outer s H vs Q E hr h => ?_)
  refine ⟨_, (pss_cons (ps_set (i := 1) sc_law.nd rfl (.inl rfl) (pe_call G_law_begin (hr.mono (by decide)) (by rfl) Tp.g_law_begin Tp.F_law_begin.kp Tp.b_law_begin .nil pass0 (pa_cons (pv 0) pa_nil)))
      (pss_cons (ps_set (i := 2) sc_law.nd rfl (.inl rfl) (pe_call G_law_bodies (hr.mono (by decide)) (by rfl) Tp.g_law_bodies Tp.F_law_bodies.kp Tp.b_law_bodies .nil pass0 (pa_cons (pv 1) (pa_cons pe_int (pa_cons pe_int pa_nil)))))
      (pss_cons (ps_set (i := 3) sc_law.nd rfl (.inl rfl) (pe_tup (pa_cons (pv 2) (pa_cons (pe_call G_law_joints (hr.mono (by decide)) (by rfl) Tp.g_law_joints Tp.F_law_joints.kp Tp.b_law_joints .nil pass0 (pa_cons (pv 1) (pa_cons (pv 2) (pa_cons (pe_call G_law_take (hr.mono (by decide)) (by rfl) Tp.g_law_take Tp.F_law_take.kp Tp.b_law_take .nil pass0 (pa_cons (pv 1) (pa_cons pe_int pa_nil))) pa_nil)))) (pa_cons (pe_tup (pa_cons (pe_tup (pa_cons pe_int (pa_cons pe_int pa_nil))) (pa_cons (pe_tup (pa_cons pe_int (pa_cons pe_int pa_nil))) pa_nil))) pa_nil)))))
      (pss_cons (ps_if (pt_cmpR (op_neD hr.units) (pe_call G_limbs (hr.mono (by decide)) (by rfl) Tp.g_limbs Tp.F_limbs.kp Tp.b_limbs .nil passL (pa_cons (pv 3) pa_nil)) (pe_call G_law_groups (hr.mono (by decide)) (by rfl) Tp.g_law_groups Tp.F_law_groups.kp Tp.b_law_groups .nil pass0 (pa_cons (pv 3) pa_nil)) (nomark _)) (pss_one (ps_ret pe_bl)) pss_nil)
      (pss_cons (ps_set (i := 4) sc_law.nd rfl (.inl rfl) (pe_ix (r := rIxT K) ix_tup (pe_ix (r := rIxT K) ix_tup (pv 2) (pe_call G_law_take (hr.mono (by decide)) (by rfl) Tp.g_law_take Tp.F_law_take.kp Tp.b_law_take .nil pass0 (pa_cons (pv 1) (pa_cons (pe_callB call_len_seq (by rfl) Tp.n_len (by decide +kernel) (pa_cons (pv 2) pa_nil)) pa_nil))) (fun _ _ => rfl)) pe_int (fun _ _ => rfl)))
      (pss_cons (ps_set (i := 5) sc_law.nd rfl (.inl rfl) (pe_ix (r := rIxT K) ix_tup (pe_ix (r := rIxT K) ix_tup (pv 2) (pe_call G_law_take (hr.mono (by decide)) (by rfl) Tp.g_law_take Tp.F_law_take.kp Tp.b_law_take .nil pass0 (pa_cons (pv 1) (pa_cons (pe_callB call_len_seq (by rfl) Tp.n_len (by decide +kernel) (pa_cons (pv 2) pa_nil)) pa_nil))) (fun _ _ => rfl)) pe_int (fun _ _ => rfl)))
      (pss_cons (ps_set (i := 6) sc_law.nd rfl (.inl rfl) (pe_call G_law_take (hr.mono (by decide)) (by rfl) Tp.g_law_take Tp.F_law_take.kp Tp.b_law_take .nil pass0 (pa_cons (pv 1) (pa_cons pe_int pa_nil))))
      (pss_cons (ps_set (i := 7) sc_law.nd rfl (.inl rfl) (pe_call G_law_told (hr.mono (by decide)) (by rfl) Tp.g_law_told Tp.F_law_told.kp Tp.b_law_told .nil pass0 (pa_cons pe_int (pa_cons (pv 3) (pa_cons (pv 4) (pa_cons (pv 5) (pa_cons (pv 6) pa_nil)))))))
      (pss_cons (ps_if (PW.pt (pw_or (pt_not (pt_val (pe_callB call_isi (by rfl) Tp.n_isinstance (by decide +kernel) (pa_cons (pv 7) (pa_cons (pe_bltn (v := .ty "tuple") (by rfl) Tp.n_tuple (by decide +kernel) rfl) pa_nil))))) (pw_or (pt_cmpR op_ne (pe_callB call_len_seq (by rfl) Tp.n_len (by decide +kernel) (pa_cons (pv 7) pa_nil)) pe_int (nomark _)) (pw_or1 (pt_not (pt_val (pe_call G_law_ends (hr.mono (by decide)) (by rfl) Tp.g_law_ends Tp.F_law_ends.kp Tp.b_law_ends .nil pass0 (pa_cons (pv 3) (pa_cons (pv 6) (pa_cons (pv 4) (pa_cons (pv 5) (pa_cons (pv 7) pa_nil)))))))))))) (pss_one (ps_ret pe_bl)) pss_nil)
      (pss_cons (ps_if (PW.pt (pw_and (pt_cmpR op_eq (pv 4) (pv 5) (nomark _)) (pw_and1 (pt_cmpR (op_neD hr.units) (pv 7) (pe_tup (pa_cons (pe_tup (pa_cons pe_int (pa_cons pe_int pa_nil))) (pa_cons (pe_tup (pa_cons pe_int (pa_cons pe_int pa_nil))) pa_nil))) (nomark _))))) (pss_one (ps_ret pe_bl)) pss_nil)
      (pss_cons (ps_if (PW.pt (pw_or (pt_cmpR (op_neD hr.units) (pe_call G_law_told (hr.mono (by decide)) (by rfl) Tp.g_law_told Tp.F_law_told.kp Tp.b_law_told .nil pass0 (pa_cons pe_int (pa_cons (pv 3) (pa_cons (pv 4) (pa_cons pe_int (pa_cons pe_int pa_nil)))))) pe_str (nomark _)) (pw_or1 (pt_cmpR (op_neD hr.units) (pe_call G_law_told (hr.mono (by decide)) (by rfl) Tp.g_law_told Tp.F_law_told.kp Tp.b_law_told .nil pass0 (pa_cons pe_int (pa_cons (pv 3) (pa_cons (pv 4) (pa_cons (pv 5) (pa_cons pe_int pa_nil)))))) pe_str (nomark _))))) (pss_one (ps_ret pe_bl)) pss_nil)
      (pss_cons (ps_setLc (i := 9) (own := [("body", 8)]) (g := gName 8) rfl sc_law.nd rfl rfl (sw_true rfl rfl rfl rfl) (pi_tup (pv 2)) (blkOk_by (N := ["script", "d", "bodies", "state", "one", "other", "axis", "told", "body", "moving", "places", "fixed"]) (sc := defScope s_law) (by decide +kernel)) (fun _ _ _ _ _ => pg_name (i := 8) sc_law.nd rfl (Or.inl rfl)) (fun _ _ _ _ _ => (pts_one (pt_cmpR op_gt (pe_ix (r := rIxT K) ix_tup (pv 8) pe_int (fun _ _ => rfl)) pe_int (nomark _)))) (fun _ _ _ _ _ => (pv 8)))
      (pss_cons (ps_set (i := 10) sc_law.nd rfl (.inl rfl) (pe_lst pa_nil))
      (pss_cons (ps_for PassesOwn.never rfl (pi_list (pv 9)) (pg_name (i := 8) sc_law.nd rfl (.inl rfl)) (pss_one (ps_if (pt_cmpR op_eq (pe_call G_law_take (hr.mono (by decide)) (by rfl) Tp.g_law_take Tp.F_law_take.kp Tp.b_law_take .nil pass0 (pa_cons (pv 1) (pa_cons pe_int pa_nil))) pe_int (nomark _)) (pss_one (ps_expr (pe_bm PySem.F.plainAttrs_list PySem.F.slot_list_append PySem.F.type_list_append mt_append (pv 10) (pa_cons (pe_tup (pa_cons (pe_ix (r := rIxT K) ix_tup (pv 8) pe_int (fun _ _ => rfl)) (pa_cons (pe_tup (pa_cons (pe_call G_law_plus (hr.mono (by decide)) (by rfl) Tp.g_law_plus Tp.F_law_plus.kp Tp.b_law_plus .nil pass0 (pa_cons (pe_ix (r := rIxT K) ix_tup (pe_ix (r := rIxT K) ix_tup (pv 8) pe_int (fun _ _ => rfl)) pe_int (fun _ _ => rfl)) (pa_cons (pe_call G_law_part (hr.mono (by decide)) (by rfl) Tp.g_law_part Tp.F_law_part.kp Tp.b_law_part .nil pass0 (pa_cons (pv 1) (pa_cons pe_int pa_nil))) pa_nil))) (pa_cons (pe_call G_law_plus (hr.mono (by decide)) (by rfl) Tp.g_law_plus Tp.F_law_plus.kp Tp.b_law_plus .nil pass0 (pa_cons (pe_ix (r := rIxT K) ix_tup (pe_ix (r := rIxT K) ix_tup (pv 8) pe_int (fun _ _ => rfl)) pe_int (fun _ _ => rfl)) (pa_cons (pe_call G_law_f (hr.mono (by decide)) (by rfl) Tp.g_law_f Tp.F_law_f.kp Tp.b_law_f .nil pass0 (pa_cons (pe_call G_law_signed (hr.mono (by decide)) (by rfl) Tp.g_law_signed Tp.F_law_signed.kp Tp.b_law_signed .nil pass0 (pa_cons (pv 1) (pa_cons pe_int pa_nil))) (pa_cons pe_int pa_nil))) pa_nil))) pa_nil))) pa_nil))) pa_nil)))) pss_nil)))
      (pss_cons (ps_if (pt_cmpR (op_neD hr.units) (pe_call G_law_told (hr.mono (by decide)) (by rfl) Tp.g_law_told Tp.F_law_told.kp Tp.b_law_told .nil pass0 (pa_cons pe_int (pa_cons (pv 3) (pa_cons (pe_callTy cr_tupleU (by rfl) Tp.n_tuple (by decide +kernel) (pa_cons (pv 10) pa_nil)) (pa_cons pe_int (pa_cons pe_int pa_nil)))))) (pe_call G_law_posed (hr.mono (by decide)) (by rfl) Tp.g_law_posed Tp.F_law_posed.kp Tp.b_law_posed .nil pass0 (pa_cons (pv 3) (pa_cons (pv 10) pa_nil))) (nomark _)) (pss_one (ps_ret pe_bl)) pss_nil)
      (pss_cons (ps_if (PW.pt (pw_and (pt_cmpR op_gt (pe_callB call_len_seq (by rfl) Tp.n_len (by decide +kernel) (pa_cons (pv 10) pa_nil)) pe_int (nomark _)) (pw_and1 (pt_cmpR (op_neD hr.units) (pe_call G_law_told (hr.mono (by decide)) (by rfl) Tp.g_law_told Tp.F_law_told.kp Tp.b_law_told .nil pass0 (pa_cons pe_int (pa_cons (pv 3) (pa_cons (pe_callTy cr_tupleU (by rfl) Tp.n_tuple (by decide +kernel) (pa_cons (pe_revL (pv 10)) pa_nil)) (pa_cons pe_int (pa_cons pe_int pa_nil)))))) pe_str (nomark _))))) (pss_one (ps_ret pe_bl)) pss_nil)
      (pss_cons (ps_set (i := 11) sc_law.nd rfl (.inl rfl) (pe_op op_cat (pe_lc (own := [("body", 8)]) (g := gName 8) rfl sc_law.nd (pi_tup (pv 2)) (blkOk_by (N := ["script", "d", "bodies", "state", "one", "other", "axis", "told", "body", "moving", "places", "fixed"]) (sc := defScope s_law) (by decide +kernel)) (fun _ _ _ _ _ => pg_name (i := 8) sc_law.nd rfl (Or.inl rfl)) (fun _ _ _ _ _ => (pts_one (pt_cmpR op_eq (pe_ix (r := rIxT K) ix_tup (pv 8) pe_int (fun _ _ => rfl)) pe_int (nomark _)))) (fun _ _ _ _ _ => (pe_ix (r := rIxT K) ix_tup (pv 8) pe_int (fun _ _ => rfl)))) (pe_lst (pa_cons pe_int pa_nil))))
      (pss_one (ps_ret (pe_cmpR (op_eqD hr.units) (pe_call G_law_told (hr.mono (by decide)) (by rfl) Tp.g_law_told Tp.F_law_told.kp Tp.b_law_told .nil pass0 (pa_cons pe_int (pa_cons (pv 3) (pa_cons (pe_tupU (pa_cons (pe_tup (pa_cons (pe_ix (r := rIxL K) ix_list (pv 11) pe_int (fun _ _ => rfl)) (pa_cons (pe_tup (pa_cons (pe_tup (pa_cons pe_int (pa_cons pe_int pa_nil))) (pa_cons (pe_tup (pa_cons pe_int (pa_cons pe_int pa_nil))) pa_nil))) pa_nil))) pa_nil)) (pa_cons pe_int (pa_cons pe_int pa_nil)))))) pe_str (nomark _))))))))))))))))))))), body_LT ?_ h⟩
  refine fun ns hl => ?_
  walk_at "norm"
  refine s_beginT (ns := ns) (by walk_at "ev") fun p C ok nf => ?_
  have z9 : ∀ m : Int, m.natAbs < 2 ^ 4 → m.natAbs < 2 ^ 8500 := fun m h => sz_le h (by decide)
  refine s_asgN (P := fun d L => ∃ bs C', d = .t (bs.map bdD) ∧ DOk C' ∧ BsN 6 bs ∧ L = (dJ K p C' (.tab Tp.tabs))) (en_draw (R := RBodiesN) (ds := [.i ((6 : Nat) : Int), .i 1]) (C := C) (Z := .tt) (by walk_at "ev") ⟨6, 1, rfl, by decide, ok, rfl, rfl⟩ nf (fun _ _ _ => trivial) (fun z => z) fun d C' po => by
    obtain ⟨oc, bs, rfl, hb⟩ := po
    exact ⟨bs, C', rfl, oc, hb, rfl⟩) fun d L po => ?_
  obtain ⟨bs, C1, rfl, oc1, hb, rfl⟩ := po
  have hlb : bs.length ≤ 6 := hb.len
  obtain ⟨o3, t1, t2⟩ := take_ok (C := C1) (m := 7) oc1 (by decide)
  obtain ⟨mj, hmj⟩ : ∃ j : Nat, (take C1 7).1 = (j : Nat) := ⟨_, (Int.toNat_of_nonneg t1).symm⟩
  have hm6 : mj ≤ 6 := by omega
  refine s_asgN (P := fun d L => ∃ js C', d = .d (stD ⟨bs, js, (0, 1), (0, 1)⟩) ∧ DOk C' ∧ JsN mj bs js ∧ L = (dJ K p C' (.tab Tp.tabs))) (en_tup (P := fun xs L => ∃ js C', xs = [.t (bs.map bdD), .t (js.map jtD), .d (vcd (0, 1) (0, 1))] ∧ DOk C' ∧ JsN mj bs js ∧ L = (dJ K p C' (.tab Tp.tabs))) ?_ ?_) fun d L po => ?_
  · refine an_cons (P := fun d L => d = .t (bs.map bdD) ∧ L = (dJ K p C1 (.tab Tp.tabs))) (en_of (e_var rfl) ⟨rfl, rfl⟩) fun d L po => ?_
    obtain ⟨rfl, rfl⟩ := po
    refine an_cons (P := fun d L => ∃ js C', d = .t (js.map jtD) ∧ DOk C' ∧ JsN mj bs js ∧ L = (dJ K p C' (.tab Tp.tabs))) (en_draw (R := RJointsN) (ds := [.t (bs.map bdD), .i (mj : Nat)]) (C := (take C1 7).2) (Z := .tt) (a_cons (e_var rfl) (a_cons (e_var rfl) (a_cons (e_is (e_draw (R := RTake) (ds := [.i 7]) (C := C1) (by walk_at "ev") ⟨_, rfl, oc1, by decide, z9 _ (by decide), rfl, rfl⟩ nf) (by rw [hmj])) a_nil))) ⟨bs, mj, rfl, by omega, hb.ne (by decide), by omega, fun b m => (hb.ok b m).mono (by decide), (badB_asc hb.bad).2, o3, rfl, rfl⟩ nf (fun _ _ _ => trivial) (fun z => z) fun d C' po => by
      obtain ⟨oc, js, rfl, hj⟩ := po
      exact ⟨js, C', rfl, oc, hj, rfl⟩) fun d L po => ?_
    obtain ⟨js, C', rfl, oc', hj, rfl⟩ := po
    exact an_of (a_cons (p_tup2 (p_cons (p_frac (a := (0, 1)) (x := 0) (y := 1) (by walk_at "ev") rfl) (p_cons (p_frac (a := (0, 1)) (x := 0) (y := 1) (by walk_at "ev") rfl) a_nil))) a_nil) ⟨js, C', rfl, oc', hj, rfl⟩
  · rintro xs L ⟨js, C', rfl, oc', hj, rfl⟩
    exact ⟨[.tuple (bs.map bdD), .tuple (js.map jtD), vcd (0, 1) (0, 1)], .cons (.cons (.cons .nil)), show 3 ≤ 100000 by decide, js, C', rfl, oc', hj, rfl⟩
  obtain ⟨js, C2, rfl, oc2, hj, rfl⟩ := po
  have hg : Gd (⟨bs, js, (0, 1), (0, 1)⟩ : Sta) := gd_of hb hm6 hj
  have hlj : js.length ≤ 6 := Nat.le_trans hj.len hm6
  obtain ⟨st, est⟩ : ∃ s, s = (⟨bs, js, (0, 1), (0, 1)⟩ : Sta) := ⟨_, rfl⟩
  rw [← est] at hg ⊢
  have ebs : st.bs = bs := by rw [est]
  have ejs : st.js = js := by rw [est]
  clear o3 t1 t2 hmj
  have shL := shaped_limbs st
  refine q_skip (b := false) (t_is (p_test (p_neD (x := limbsM st) (y := limbsM st) (e_callX (tabs := Tp.tabs) (R := RLimbs) (ds := [.d (stD st)]) (by walk_at "ev") ⟨st, rfl, hg, rfl⟩) (p_call (R := RLGroups) (ds := [.d (stD st)]) (by walk_at "ev") ⟨st, rfl, hg, rfl⟩) shL shL)) (by rw [eqv_self shL]; rfl)) rfl ?_
  have lb0 : 0 < ((bs.length : Nat) : Int) := by
    have := List.length_pos_iff.mpr (hb.ne (by decide))
    omega
  have zb : ((bs.length : Nat) : Int).natAbs < 2 ^ 8500 := sz_le (m := 20) (by omega) (by decide)
  obtain ⟨ao, a1, a2⟩ := take_ok (C := C2) (m := ((bs.length : Nat) : Int)) oc2 lb0
  obtain ⟨ix, hix⟩ : ∃ j : Nat, (take C2 ((bs.length : Nat) : Int)).1 = (j : Nat) := ⟨_, (Int.toNat_of_nonneg a1).symm⟩
  have lix : ix < bs.length := by omega
  obtain ⟨x, hx⟩ : ∃ z, bs[ix]? = some z := ⟨_, List.getElem?_eq_getElem lix⟩
  refine s_seq (s_asg (d := .i x.nm) (e_ixT (j := 0) (x := .int x.nm) (ds := [.int x.nm, vcd x.bx.p0 x.bx.p1, vcd x.bx.s0 x.bx.s1, .int x.ms, fr x.gr, vcd x.v0 x.v1]) (e_ixT (j := ix) (x := bdD x) (e_var rfl) (e_is (e_draw (R := RTake) (ds := [.i ((bs.length : Nat) : Int)]) (C := C2) (p_cons (e_var rfl) (p_cons (e_is (p_lenT (ds := bs.map bdD) (p_cons (e_var rfl) a_nil)) (by rw [List.length_map])) a_nil)) ⟨_, rfl, oc2, lb0, zb, rfl, rfl⟩ nf) (by rw [hix])) (by rw [List.getElem?_map, hx]; rfl)) (e_is e_int rfl) rfl)) ?_
  generalize (take C2 ((bs.length : Nat) : Int)).2 = C3 at *
  obtain ⟨bo, b1, b2⟩ := take_ok (C := C3) (m := ((bs.length : Nat) : Int)) ao lb0
  obtain ⟨iy, hiy⟩ : ∃ j : Nat, (take C3 ((bs.length : Nat) : Int)).1 = (j : Nat) := ⟨_, (Int.toNat_of_nonneg b1).symm⟩
  have liy : iy < bs.length := by omega
  obtain ⟨y, hy⟩ : ∃ z, bs[iy]? = some z := ⟨_, List.getElem?_eq_getElem liy⟩
  refine s_seq (s_asg (d := .i y.nm) (e_ixT (j := 0) (x := .int y.nm) (ds := [.int y.nm, vcd y.bx.p0 y.bx.p1, vcd y.bx.s0 y.bx.s1, .int y.ms, fr y.gr, vcd y.v0 y.v1]) (e_ixT (j := iy) (x := bdD y) (e_var rfl) (e_is (e_draw (R := RTake) (ds := [.i ((bs.length : Nat) : Int)]) (C := C3) (p_cons (e_var rfl) (p_cons (e_is (p_lenT (ds := bs.map bdD) (p_cons (e_var rfl) a_nil)) (by rw [List.length_map])) a_nil)) ⟨_, rfl, ao, lb0, zb, rfl, rfl⟩ nf) (by rw [hiy])) (by rw [List.getElem?_map, hy]; rfl)) (e_is e_int rfl) rfl)) ?_
  generalize (take C3 ((bs.length : Nat) : Int)).2 = C4 at *
  obtain ⟨o5, k1, k2⟩ := take_ok (C := C4) (m := 2) bo (by decide)
  have hk : (take C4 2).1 = 0 ∨ (take C4 2).1 = 1 := by omega
  refine s_seq (s_asg (d := .i (take C4 2).1) (e_draw (R := RTake) (ds := [.i 2]) (C := C4) (by walk_at "ev") ⟨_, rfl, bo, by decide, z9 _ (by decide), rfl, rfl⟩ nf)) ?_
  generalize (take C4 2).2 = C5 at *
  generalize (take C4 2).1 = k at *
  have mx : x.nm ∈ nmsM st := List.mem_map.mpr ⟨x, by rw [ebs]; exact List.mem_of_getElem? hx, rfl⟩
  have my : y.nm ∈ nmsM st := List.mem_map.mpr ⟨y, by rw [ebs]; exact List.mem_of_getElem? hy, rfl⟩
  obtain ⟨t0, t1, et⟩ := play_two st x.nm y.nm k
  refine q_asg (d := .t [t0, t1]) (p_call (R := RTold43) (ds := [.i 0, .d (stD st), .i x.nm, .i y.nm, .i k]) (d := .t [t0, t1]) (p_cons e_int (p_cons (e_var rfl) (p_cons (e_var rfl) (p_cons (e_var rfl) (p_cons (e_var rfl) a_nil))))) ⟨st, hg, .inl ⟨x.nm, y.nm, k, rfl, .inr (.inr ⟨mx, my, hk, by rw [et]⟩)⟩⟩) ?_
  refine q_skip (b := false) (t_orF (t_is (t_not (t_B (e_isT (b := true) (xs := [t0, t1]) rfl (e_var rfl)))) rfl) (t_orF (t_is (p_test (p_neI (i := ([t0, t1].length : Nat)) (j := 2) (p_lenT (ds := [t0, t1]) (p_cons (e_var rfl) a_nil)) e_int)) rfl) (t_is (t_not (t_B (p_call (R := RLEnds) (ds := [.d (stD st), .i k, .i x.nm, .i y.nm, .t [t0, t1]]) (d := .b true) (by walk_at "ev") ⟨st, k, x.nm, y.nm, by rw [et], hg, by rw [ebs]; exact hlb, by rw [ejs]; exact hlj, hk, mx, my, rfl⟩))) rfl))) rfl ?_
  refine q_skip (b := false) (by
    by_cases c : x.nm = y.nm
    · have e2 : PyData.tuple [t0, t1] = vcd (0, 1) (0, 1) := by rw [← et, ← c]; exact play_same hg hk mx
      exact t_andT (t_is (p_test (p_eqI (i := x.nm) (j := y.nm) (e_var rfl) (e_var rfl))) (decide_eq_true c)) (t_is (p_test (p_neD (x := vcd (0, 1) (0, 1)) (y := vcd (0, 1) (0, 1)) (e_is (e_var rfl) (show Dat.d (.tuple [t0, t1]) = .d (vcd (0, 1) (0, 1)) by rw [e2])) (p_tup2 (p_cons (p_frac (a := (0, 1)) (x := 0) (y := 1) (by walk_at "ev") rfl) (p_cons (p_frac (a := (0, 1)) (x := 0) (y := 1) (by walk_at "ev") rfl) a_nil))) (shaped_v _ _) (shaped_v _ _))) (by rw [eqv_self (shaped_v _ _)]; rfl))
    · exact t_andF (t_is (p_test (p_eqI (i := x.nm) (j := y.nm) (e_var rfl) (e_var rfl))) (decide_eq_false c))) rfl ?_
  refine q_skip (b := false) (t_orF (t_is (p_test (p_neD (x := .str "id") (y := .str "id") (p_call (R := RTold43) (ds := [.i 0, .d (stD st), .i x.nm, .i 99, .i 2]) (d := .d (.str "id")) (p_cons e_int (p_cons (e_var rfl) (p_cons (e_var rfl) (p_cons e_int (p_cons e_int a_nil))))) ⟨st, hg, .inl ⟨x.nm, 99, 2, rfl, .inl ⟨.inr (nms99 (by rw [ebs]; exact hb.nm)), rfl⟩⟩⟩) e_str sh_id sh_id)) (by rw [eqv_self sh_id]; rfl)) (t_is (p_test (p_neD (x := .str "axis") (y := .str "axis") (p_call (R := RTold43) (ds := [.i 0, .d (stD st), .i x.nm, .i y.nm, .i 2]) (d := .d (.str "axis")) (p_cons e_int (p_cons (e_var rfl) (p_cons (e_var rfl) (p_cons (e_var rfl) (p_cons e_int a_nil))))) ⟨st, hg, .inl ⟨x.nm, y.nm, 2, rfl, .inr (.inl ⟨mx, my, by decide, rfl⟩)⟩⟩) e_str sh_axis sh_axis)) (by rw [eqv_self sh_axis]; rfl))) rfl ?_
  obtain ⟨mv, emv⟩ : ∃ mv, mv = bs.filter fun b => decide (0 < b.ms) := ⟨_, rfl⟩
  have eR := row_get bd0 (fun b => decide (0 < b.ms)) bdD bs
  rw [← emv] at eR
  refine q_asg (d := .d (.list (mv.map bdD))) (e_is (e_lcTW (n := bs.length) (b := fun j => decide (0 < (bs.getD j bd0).ms)) (e := fun j => bdD (bs.getD j bd0)) (e_iwn (iw_t (ds := bs.map bdD) (e_var rfl)) (by rw [List.length_map])) (by omega) fun i hi => ?_) (by rw [eR])) ?_
  · have hx : bs[i]? = some (bs.getD i bd0) := by rw [List.getD_eq_getElem?_getD, List.getElem?_eq_getElem hi]; rfl
    generalize bs.getD i bd0 = x at hx ⊢
    rw [at0_map hx]
    exact ⟨_, w_name List.mem_cons_self, fun I' => p_test (p_gt (i := x.ms) (j := 0) (p_ixT (i := 3) (x := .int x.ms) (e_var rfl) e_int rfl) e_int), fun _ I' => e_var rfl⟩
  refine s_newL fun q h1 => ?_
  have p1 : q ≠ p := fun z => h1 (.inl z)
  have n1 : ¬ (Asn.tab Tp.tabs).foot q := fun z => h1 (.inr z)
  have hfq : ∀ {X}, ¬ (lJ K q X (.tab Tp.tabs)).foot p := fun {X} z => by
    rcases z with z | z
    · exact p1 z.symm
    · exact nf z
  refine s_pre (I' := (dJ K p C5 (lJ K q ((([] : List Pl)).map plD) (.tab Tp.tabs)))) (fun G H z => ⟨z.2.1, z.1, z.2.2⟩) ?_
  have lmv : mv.length ≤ 6 := by rw [emv]; exact Nat.le_trans (List.length_filter_le _ _) hlb
  refine s_loopR (α := List Pl × DS) (bs := mv) (f := fun _ z => bdD z) (fun i rest a => ∃ dn, mv = dn ++ rest ∧ (a.1.map (·.1)).Sublist (dn.map (·.nm)) ∧ (∀ z ∈ a.1, PlOk z) ∧ DOk a.2) (fun _ => [some (.d (.list (ns.map PyData.int))), some (.r p), some (.t (bs.map bdD)), some (.d (stD st)), some (.i x.nm), some (.i y.nm), some (.i k), some (.t [t0, t1]), none, some (.d (.list (mv.map bdD))), some (.r q), none]) (fun a => (dJ K p a.2 (lJ K q ((a.1).map plD) (.tab Tp.tabs)))) ([], C5) ⟨[], rfl, List.Sublist.refl _, fun z hz => (by simp at hz), o5⟩ (iw_l (e_var rfl)) (by rw [List.length_map]) (fun i z h => at0_map h) rfl (fun i b rest a hw => ?_) (fun a i hw => ?_)
  · obtain ⟨pl, C6⟩ := a
    obtain ⟨dn, hdn, hsub, hok, oa⟩ := hw
    replace hsub : (pl.map (·.1)).Sublist (dn.map (·.nm)) := hsub
    replace hok : ∀ z ∈ pl, PlOk z := hok
    replace oa : DOk C6 := oa
    have hbm : b ∈ bs := by
      have : b ∈ mv := by rw [hdn]; simp
      rw [emv] at this
      exact (List.mem_filter.mp this).1
    have B := (hb.ok b hbm).bx
    have lpl : pl.length ≤ 6 := by
      have h1 := hsub.length_le
      have h2 := congrArg List.length hdn
      rw [List.length_map, List.length_map] at h1
      rw [List.length_append] at h2
      omega
    obtain ⟨o7, v1, v2⟩ := take_ok (C := C6) (m := 3) oa (by decide)
    have hdn2 : mv = (dn ++ [b]) ++ rest := by rw [hdn]; simp
    have sub0 : (pl.map (·.1)).Sublist ((dn ++ [b]).map (·.nm)) := by
      rw [List.map_append]
      exact hsub.trans (List.sublist_append_left _ _)
    refine ⟨_, g_name, .inl ?_⟩
    by_cases c : (take C6 3).1 = 1
    · obtain ⟨o8, s8⟩ := part_sm (C := (take C6 3).2) (m := 1) o7 (by decide)
      obtain ⟨pt, ept⟩ : ∃ z, z = (partM (take C6 3).2 ((1 : Nat) : Int)).1 := ⟨_, rfl⟩
      rw [← ept] at s8
      obtain ⟨o9, w1, w2⟩ := take_ok (C := (partM (take C6 3).2 ((1 : Nat) : Int)).2) (m := 2 * 1 + 1) o8 (by decide)
      obtain ⟨sg, esg⟩ : ∃ z, z = (take (partM (take C6 3).2 ((1 : Nat) : Int)).2 (2 * 1 + 1)).1 - 1 := ⟨_, rfl⟩
      have hsg : sg.natAbs ≤ 1 := by omega
      have s9 : Sm 6 1 (lf sg 2) := sm_lf (by decide) (by decide) (by show sg.natAbs ≤ 1 * 2; omega)
      have r0 : Sm 6 48 (plusM b.bx.p0 pt) := (B.p0.plus s8).up (by decide)
      have r1 : Sm 6 48 (plusM b.bx.p1 (lf sg 2)) := (B.p1.plus s9).up (by decide)
      have ok20 : ∀ {E : Nat} {x : F}, Sm 6 E x → E ≤ 100 → PL.Ok 20 x := fun h he => h.ok (k := 20) (by decide) (by decide) (by omega)
      refine ⟨(pl ++ [(b.nm, plusM b.bx.p0 pt, plusM b.bx.p1 (lf sg 2))], (take (partM (take C6 3).2 ((1 : Nat) : Int)).2 (2 * 1 + 1)).2), ⟨dn ++ [b], hdn2, ?_, ?_, o9⟩, ?_⟩
      · rw [List.map_append, List.map_append]
        exact hsub.append (List.Sublist.refl _)
      · intro z hz
        rcases List.mem_append.mp hz with hz | hz
        · exact hok z hz
        · rw [List.mem_singleton.mp hz]
          exact ⟨r0.up (by decide), r1.up (by decide)⟩
      · refine s_lessN (ρ' := [some (.d (.list (ns.map PyData.int))), some (.r p), some (.t (bs.map bdD)), some (.d (stD st)), some (.i x.nm), some (.i y.nm), some (.i k), some (.t [t0, t1]), some (.d (bdD b)), some (.d (.list (mv.map bdD))), some (.r q), none]) ⟨.inr rfl, .inr rfl, .inr rfl, .inr rfl, .inr rfl, .inr rfl, .inr rfl, .inr rfl, .inl rfl, .inr rfl, .inr rfl, .inr rfl, trivial⟩ ?_
        refine s_ifT (t_is (t_test (e_eqI (i := (take C6 3).1) (j := 1) (e_draw (R := RTake) (ds := [.i 3]) (C := C6) (by walk_at "ev") ⟨_, rfl, oa, by decide, z9 _ (by decide), rfl, rfl⟩ hfq) e_int)) (decide_eq_true c)) ?_
        refine s_is (s_appD (x := plD (b.nm, plusM b.bx.p0 pt, plusM b.bx.p1 (lf sg 2))) (e_tup (ds := [.i b.nm, .d (vcd (plusM b.bx.p0 pt) (plusM b.bx.p1 (lf sg 2)))]) (a_cons (p_i0 (e_var rfl)) (a_cons (e_tup (ds := [.d (fr (plusM b.bx.p0 pt)), .d (fr (plusM b.bx.p1 (lf sg 2)))]) (a_cons (e_is (e_call (R := RPlus lplus) (a_cons (p_i0 (p_i1 (e_var rfl))) (a_cons (e_is (e_draw (R := RPart) (ds := [.i ((1 : Nat) : Int)]) (C := (take C6 3).2) (by walk_at "ev") ⟨_, rfl, o7, by decide, sz_le (m := 4) (by decide) (by decide), rfl, rfl⟩ hfq) (by rw [← ept])) a_nil)) (RPlus.mk (ok20 B.p0 (by decide)) (ok20 s8 (by decide)))) (by rw [lplus_eq B.p0.nrm s8.nrm])) (a_cons (e_is (e_call (R := RPlus lplus) (a_cons (p_i1 (p_i1 (e_var rfl))) (a_cons (e_call (R := RF) (ds := [.i sg, .i 2]) (a_cons (e_is (e_draw (R := RSigned) (ds := [.i 1]) (C := (partM (take C6 3).2 ((1 : Nat) : Int)).2) (by walk_at "ev") ⟨1, rfl, o8, by decide, sz_le (m := 4) (by decide) (by decide), rfl, rfl⟩ hfq) (by rw [← esg])) (a_cons e_int a_nil)) (RF.mk (m := 4) (n := 4) (by decide) (by omega) (by decide))) a_nil)) (RPlus.mk (ok20 B.p1 (by decide)) (ok20 s9 (by decide)))) (by rw [lplus_eq B.p1.nrm s9.nrm])) a_nil)) (.cons (.cons .nil)) (show 2 ≤ 100000 by decide)) a_nil)) (.cons (.cons .nil)) (show 2 ≤ 100000 by decide)) rfl (by rw [List.length_map]; show pl.length < 100000; omega) n1 p1) (by rw [List.map_append]; rfl)
    · refine ⟨(pl, (take C6 3).2), ⟨dn ++ [b], hdn2, sub0, hok, o7⟩, ?_⟩
      refine s_lessN (ρ' := [some (.d (.list (ns.map PyData.int))), some (.r p), some (.t (bs.map bdD)), some (.d (stD st)), some (.i x.nm), some (.i y.nm), some (.i k), some (.t [t0, t1]), some (.d (bdD b)), some (.d (.list (mv.map bdD))), some (.r q), none]) ⟨.inr rfl, .inr rfl, .inr rfl, .inr rfl, .inr rfl, .inr rfl, .inr rfl, .inr rfl, .inl rfl, .inr rfl, .inr rfl, .inr rfl, trivial⟩ ?_
      exact s_ifF (t_is (t_test (e_eqI (i := (take C6 3).1) (j := 1) (e_draw (R := RTake) (ds := [.i 3]) (C := C6) (by walk_at "ev") ⟨_, rfl, oa, by decide, z9 _ (by decide), rfl, rfl⟩ hfq) e_int)) (decide_eq_false c)) s_next
  obtain ⟨pl, C6⟩ := a
  obtain ⟨dn, hdn, hsub, hok, oa⟩ := hw
  replace hsub : (pl.map (·.1)).Sublist (dn.map (·.nm)) := hsub
  replace hok : ∀ z ∈ pl, PlOk z := hok
  rw [List.append_nil] at hdn
  subst hdn
  have hbn : badN st.bs (-1) (pl.map (·.1)) = false := by rw [ebs]; exact bad_sub hb.bad (by rw [show mvN bs = mv.map (·.nm) by rw [emv]; rfl]; exact hsub)
  have lpl : pl.length ≤ 6 := by
    have h1 := hsub.length_le
    rw [List.length_map, List.length_map] at h1
    omega
  refine s_pre (I' := lJ K q (pl.map plD) (dJ K p C6 (.tab Tp.tabs))) (fun G H z => ⟨z.2.1, z.1, z.2.2⟩) ?_
  refine s_freeze (i := 10) rfl (fun z => by
    rcases z with z | z
    · exact p1 z
    · exact n1 z) ?_
  have hlp : pl.length ≤ 100000 := by omega
  have shP := shaped_posed st pl
  have ndp : (pl.map (·.1)).Nodup := (badN_asc hbn).2.imp fun h => by omega
  refine q_skip (b := false) (t_is (p_test (p_neD (x := posedD st pl) (y := posedD st pl) (p_call (R := RTold43) (ds := [.i 1, .d (stD st), .u ((pl : List Pl).map plD), .i 0, .i 0]) (d := .d (posedD st pl)) (p_cons e_int (p_cons (e_var rfl) (p_cons (e_tupU (p_cons (e_var rfl) a_nil)) (p_cons e_int (p_cons e_int a_nil))))) (told_posed hg hlp hok hbn)) (p_call (R := RLPosed) (ds := [.d (stD st), .d (.list (pl.map plD))]) (by walk_at "ev") ⟨st, pl, rfl, hg, by omega, ndp, hok, rfl⟩) shP shP)) (by rw [eqv_self shP]; rfl)) rfl ?_
  refine q_skip (b := false) (by
    by_cases c : 1 < pl.length
    · exact t_andT (t_is (p_test (p_gt (i := ((pl.map plD).length : Nat)) (j := 1) (p_len (ds := pl.map plD) (p_cons (e_var rfl) a_nil)) e_int)) (decide_eq_true (by rw [List.length_map]; omega))) (t_is (p_test (p_neD (x := .str "id") (y := .str "id") (p_call (R := RTold43) (ds := [.i 1, .d (stD st), .u ((pl.reverse : List Pl).map plD), .i 0, .i 0]) (d := .d (.str "id")) (p_cons e_int (p_cons (e_var rfl) (p_cons (e_tupU (p_cons (e_l2d (e_is (e_revL (e_var rfl)) (by rw [List.map_reverse]))) a_nil)) (p_cons e_int (p_cons e_int a_nil))))) (told_bad hg (by rw [List.length_reverse]; exact hlp) (fun z hz => hok z (List.mem_reverse.mp hz)) (by rw [List.map_reverse]; exact bad_rev hbn (by rw [List.length_map]; exact c)))) e_str sh_id sh_id)) (by rw [eqv_self sh_id]; rfl))
    · exact t_andF (t_is (p_test (p_gt (i := ((pl.map plD).length : Nat)) (j := 1) (p_len (ds := pl.map plD) (p_cons (e_var rfl) a_nil)) e_int)) (decide_eq_false (by rw [List.length_map]; omega)))) rfl ?_
  obtain ⟨f, hf0, hf1⟩ := fix_head hb.bad hb.nm
  have eX := row_get bd0 (fun b => decide (b.ms = 0)) (fun b => PyData.int b.nm) bs
  obtain ⟨fx, efx⟩ : ∃ l, l = (bs.filter fun b => decide (b.ms = 0)).map fun b => PyData.int b.nm := ⟨_, rfl⟩
  rw [← efx] at eX hf0
  have lfx : fx.length ≤ 6 := by rw [efx, List.length_map]; exact Nat.le_trans (List.length_filter_le _ _) hlb
  refine q_asg (d := .d (.list (fx ++ [.int 99]))) (e_l2d (e_cat (e_is (e_lcTWl (n := bs.length) (b := fun j => decide ((bs.getD j bd0).ms = 0)) (e := fun j => PyData.int (bs.getD j bd0).nm) (e_iwn (iw_t (ds := bs.map bdD) (e_var rfl)) (by rw [List.length_map])) (by omega) fun i hi => ?_) (by rw [eX])) (e_lstL (ds := [.i 99]) (p_cons e_int a_nil) (.cons .nil) (show 1 ≤ 100000 by decide)) (by show fx.length + 1 ≤ 100000; omega))) ?_
  · have hx : bs[i]? = some (bs.getD i bd0) := by rw [List.getD_eq_getElem?_getD, List.getElem?_eq_getElem hi]; rfl
    generalize bs.getD i bd0 = x at hx ⊢
    rw [at0_map hx]
    exact ⟨_, w_name List.mem_cons_self, fun I' => p_test (p_eqI (i := x.ms) (j := 0) (p_ixT (i := 3) (x := .int x.ms) (e_var rfl) e_int rfl) e_int), fun _ I' => p_i0 (e_var rfl)⟩
  exact s_rtT (p_ret (e_is (p_eqD (x := .str "id") (y := .str "id") (p_call (R := RTold43) (ds := [.i 1, .d (stD st), .u (([(f, (0, 1), (0, 1))] : List Pl).map plD), .i 0, .i 0]) (d := .d (.str "id")) (p_cons e_int (p_cons (e_var rfl) (p_cons (e_tupD (ds := [.d (plD (f, (0, 1), (0, 1)))]) (p_cons (p_tup2 (p_cons (e_ixL (j := 0) (x := .int f) (e_var rfl) e_int hf0) (p_cons (p_tup2 (p_cons (p_frac (a := (0, 1)) (x := 0) (y := 1) (by walk_at "ev") rfl) (p_cons (p_frac (a := (0, 1)) (x := 0) (y := 1) (by walk_at "ev") rfl) a_nil))) a_nil))) a_nil) (.cons .nil) (show 1 ≤ 100000 by decide)) (p_cons e_int (p_cons e_int a_nil))))) (told_bad hg (show 1 ≤ 100000 by decide) (fun z hz => by rw [List.mem_singleton.mp hz]; exact ⟨sm_c0, sm_c0⟩) (by rw [ebs]; exact bad_one hf1))) e_str sh_id sh_id) (by rw [eqv_self sh_id])))
end
theorem all_mk {w : World} {K : PySem.W.Frag} {h : Heap} {mg : Str → Option Value} {fa : Addr} {qq : Program} (X : K.In h) (G : h.Ns mainGlobals mg) (hfa : mg "law" = some (.ref fa)) (htab : ∀ (y : Str) (c P : Addr), ((PyProof.Rows.recsOf qq).any fun e => e.name == y) = true → PySem.W.tabIn K y = some (c, P) → PySem.W.CodeHd h c P ∧ h.get? P = some { cls := .none, data := .fields #[] })
    {f0 f1 f2 f3 f4 f5 f6 f7 f8 f9 f10 f11 f12 f13 f14 f15 f16 f17 f18 f19 f20 f21 f22 f23 f24 f25 f26 f27 f28 f29 f30 f31 f32 f33 f34 f35 f36 f37 f38 f39 f40 f41 f42 f43 f44 f45 f46 f47 f48 : Addr} {od0 an0 od1 an1 od2 an2 od3 an3 od4 an4 od5 an5 od6 an6 od7 an7 od8 an8 od9 an9 od10 an10 od11 an11 od12 an12 od13 an13 od14 an14 od15 an15 od16 an16 od17 an17 od18 an18 od19 an19 od20 an20 od21 an21 od22 an22 od23 an23 od24 an24 od25 an25 od26 an26 od27 an27 od28 an28 od29 an29 od30 an30 od31 an31 od32 an32 od33 an33 od34 an34 od35 an35 od36 an36 od37 an37 od38 an38 od39 an39 od40 an40 od41 an41 od42 an42 od43 an43 od44 an44 od45 an45 od46 an46 od47 an47 od48 an48 : Option Addr} {sl0 sl1 sl2 sl3 sl4 sl5 sl6 sl7 sl8 sl9 sl10 sl11 sl12 sl13 sl14 sl15 sl16 sl17 sl18 sl19 sl20 sl21 sl22 sl23 sl24 sl25 sl26 sl27 sl28 sl29 sl30 sl31 sl32 sl33 sl34 sl35 sl36 sl37 sl38 sl39 sl40 sl41 sl42 sl43 sl44 sl45 sl46 sl47 sl48 : Array (Option Value)} {oc0 kV0 dc0 pm0 cd0 ct0 oc1 kV1 dc1 pm1 cd1 ct1 oc2 kV2 dc2 pm2 cd2 ct2 oc3 kV3 dc3 pm3 cd3 ct3 oc4 kV4 dc4 pm4 cd4 ct4 oc5 kV5 dc5 pm5 cd5 ct5 oc6 kV6 dc6 pm6 cd6 ct6 oc7 kV7 dc7 pm7 cd7 ct7 oc8 kV8 dc8 pm8 cd8 ct8 oc9 kV9 dc9 pm9 cd9 ct9 oc10 kV10 dc10 pm10 cd10 ct10 oc11 kV11 dc11 pm11 cd11 ct11 oc12 kV12 dc12 pm12 cd12 ct12 oc13 kV13 dc13 pm13 cd13 ct13 oc14 kV14 dc14 pm14 cd14 ct14 oc15 kV15 dc15 pm15 cd15 ct15 oc16 kV16 dc16 pm16 cd16 ct16 oc17 kV17 dc17 pm17 cd17 ct17 oc18 kV18 dc18 pm18 cd18 ct18 oc19 kV19 dc19 pm19 cd19 ct19 oc20 kV20 dc20 pm20 cd20 ct20 oc21 kV21 dc21 pm21 cd21 ct21 oc22 kV22 dc22 pm22 cd22 ct22 oc23 kV23 dc23 pm23 cd23 ct23 oc24 kV24 dc24 pm24 cd24 ct24 oc25 kV25 dc25 pm25 cd25 ct25 oc26 kV26 dc26 pm26 cd26 ct26 oc27 kV27 dc27 pm27 cd27 ct27 oc28 kV28 dc28 pm28 cd28 ct28 oc29 kV29 dc29 pm29 cd29 ct29 oc30 kV30 dc30 pm30 cd30 ct30 oc31 kV31 dc31 pm31 cd31 ct31 oc32 kV32 dc32 pm32 cd32 ct32 oc33 kV33 dc33 pm33 cd33 ct33 oc34 kV34 dc34 pm34 cd34 ct34 oc35 kV35 dc35 pm35 cd35 ct35 oc36 kV36 dc36 pm36 cd36 ct36 oc37 kV37 dc37 pm37 cd37 ct37 oc38 kV38 dc38 pm38 cd38 ct38 oc39 kV39 dc39 pm39 cd39 ct39 oc40 kV40 dc40 pm40 cd40 ct40 oc41 kV41 dc41 pm41 cd41 ct41 oc42 kV42 dc42 pm42 cd42 ct42 oc43 kV43 dc43 pm43 cd43 ct43 oc44 kV44 dc44 pm44 cd44 ct44 oc45 kV45 dc45 pm45 cd45 ct45 oc46 kV46 dc46 pm46 cd46 ct46 oc47 kV47 dc47 pm47 cd47 ct47 oc48 kV48 dc48 pm48 cd48 ct48 : Value}
    (a0 : PySem.W.nsIn K mainGlobals "plus" = some (some (.ref f0))) (l0 : K.lookup f0 = some ⟨oc0, od0, .func (PySem.W.fnOf "plus" "plus" (defArgs s_plus) (defBody s_plus) (defScope s_plus) .none kV0 dc0 pm0 an0 cd0 ct0), sl0⟩) (c0 : PySem.W.codeIn K cd0 "plus" = true) (k0 : PySem.W.keepIn K (.ref f0) = true)
    (a1 : PySem.W.nsIn K mainGlobals "minus" = some (some (.ref f1))) (l1 : K.lookup f1 = some ⟨oc1, od1, .func (PySem.W.fnOf "minus" "minus" (defArgs s_minus) (defBody s_minus) (defScope s_minus) .none kV1 dc1 pm1 an1 cd1 ct1), sl1⟩) (c1 : PySem.W.codeIn K cd1 "minus" = true) (k1 : PySem.W.keepIn K (.ref f1) = true)
    (a2 : PySem.W.nsIn K mainGlobals "compare" = some (some (.ref f2))) (l2 : K.lookup f2 = some ⟨oc2, od2, .func (PySem.W.fnOf "compare" "compare" (defArgs s_compare) (defBody s_compare) (defScope s_compare) .none kV2 dc2 pm2 an2 cd2 ct2), sl2⟩) (c2 : PySem.W.codeIn K cd2 "compare" = true) (k2 : PySem.W.keepIn K (.ref f2) = true)
    (a3 : PySem.W.nsIn K mainGlobals "is_sized" = some (some (.ref f3))) (l3 : K.lookup f3 = some ⟨oc3, od3, .func (PySem.W.fnOf "is_sized" "is_sized" (defArgs s_is_sized) (defBody s_is_sized) (defScope s_is_sized) .none kV3 dc3 pm3 an3 cd3 ct3), sl3⟩) (c3 : PySem.W.codeIn K cd3 "is_sized" = true) (k3 : PySem.W.keepIn K (.ref f3) = true)
    (a4 : PySem.W.nsIn K mainGlobals "check_axis" = some (some (.ref f4))) (l4 : K.lookup f4 = some ⟨oc4, od4, .func (PySem.W.fnOf "check_axis" "check_axis" (defArgs s_check_axis) (defBody s_check_axis) (defScope s_check_axis) .none kV4 dc4 pm4 an4 cd4 ct4), sl4⟩) (c4 : PySem.W.codeIn K cd4 "check_axis" = true) (k4 : PySem.W.keepIn K (.ref f4) = true)
    (a5 : PySem.W.nsIn K mainGlobals "ends_of" = some (some (.ref f5))) (l5 : K.lookup f5 = some ⟨oc5, od5, .func (PySem.W.fnOf "ends_of" "ends_of" (defArgs s_ends_of) (defBody s_ends_of) (defScope s_ends_of) .none kV5 dc5 pm5 an5 cd5 ct5), sl5⟩) (c5 : PySem.W.codeIn K cd5 "ends_of" = true) (k5 : PySem.W.keepIn K (.ref f5) = true)
    (a6 : PySem.W.nsIn K mainGlobals "ends_overlap" = some (some (.ref f6))) (l6 : K.lookup f6 = some ⟨oc6, od6, .func (PySem.W.fnOf "ends_overlap" "ends_overlap" (defArgs s_ends_overlap) (defBody s_ends_overlap) (defScope s_ends_overlap) .none kV6 dc6 pm6 an6 cd6 ct6), sl6⟩) (c6 : PySem.W.codeIn K cd6 "ends_overlap" = true) (k6 : PySem.W.keepIn K (.ref f6) = true)
    (a7 : PySem.W.nsIn K mainGlobals "linked_sets" = some (some (.ref f7))) (l7 : K.lookup f7 = some ⟨oc7, od7, .func (PySem.W.fnOf "linked_sets" "linked_sets" (defArgs s_linked_sets) (defBody s_linked_sets) (defScope s_linked_sets) .none kV7 dc7 pm7 an7 cd7 ct7), sl7⟩) (c7 : PySem.W.codeIn K cd7 "linked_sets" = true) (k7 : PySem.W.keepIn K (.ref f7) = true)
    (a8 : PySem.W.nsIn K mainGlobals "check_state" = some (some (.ref f8))) (l8 : K.lookup f8 = some ⟨oc8, od8, .func (PySem.W.fnOf "check_state" "check_state" (defArgs s_check_state) (defBody s_check_state) (defScope s_check_state) .none kV8 dc8 pm8 an8 cd8 ct8), sl8⟩) (c8 : PySem.W.codeIn K cd8 "check_state" = true) (k8 : PySem.W.keepIn K (.ref f8) = true)
    (a9 : PySem.W.nsIn K mainGlobals "check_bodies" = some (some (.ref f9))) (l9 : K.lookup f9 = some ⟨oc9, od9, .func (PySem.W.fnOf "check_bodies" "check_bodies" (defArgs s_check_bodies) (defBody s_check_bodies) (defScope s_check_bodies) .none kV9 dc9 pm9 an9 cd9 ct9), sl9⟩) (c9 : PySem.W.codeIn K cd9 "check_bodies" = true) (k9 : PySem.W.keepIn K (.ref f9) = true)
    (a10 : PySem.W.nsIn K mainGlobals "is_body_sound" = some (some (.ref f10))) (l10 : K.lookup f10 = some ⟨oc10, od10, .func (PySem.W.fnOf "is_body_sound" "is_body_sound" (defArgs s_is_body_sound) (defBody s_is_body_sound) (defScope s_is_body_sound) .none kV10 dc10 pm10 an10 cd10 ct10), sl10⟩) (c10 : PySem.W.codeIn K cd10 "is_body_sound" = true) (k10 : PySem.W.keepIn K (.ref f10) = true)
    (a11 : PySem.W.nsIn K mainGlobals "check_overlaps" = some (some (.ref f11))) (l11 : K.lookup f11 = some ⟨oc11, od11, .func (PySem.W.fnOf "check_overlaps" "check_overlaps" (defArgs s_check_overlaps) (defBody s_check_overlaps) (defScope s_check_overlaps) .none kV11 dc11 pm11 an11 cd11 ct11), sl11⟩) (c11 : PySem.W.codeIn K cd11 "check_overlaps" = true) (k11 : PySem.W.keepIn K (.ref f11) = true)
    (a12 : PySem.W.nsIn K mainGlobals "check_joint" = some (some (.ref f12))) (l12 : K.lookup f12 = some ⟨oc12, od12, .func (PySem.W.fnOf "check_joint" "check_joint" (defArgs s_check_joint) (defBody s_check_joint) (defScope s_check_joint) .none kV12 dc12 pm12 an12 cd12 ct12), sl12⟩) (c12 : PySem.W.codeIn K cd12 "check_joint" = true) (k12 : PySem.W.keepIn K (.ref f12) = true)
    (a13 : PySem.W.nsIn K mainGlobals "joint_way" = some (some (.ref f13))) (l13 : K.lookup f13 = some ⟨oc13, od13, .func (PySem.W.fnOf "joint_way" "joint_way" (defArgs s_joint_way) (defBody s_joint_way) (defScope s_joint_way) .none kV13 dc13 pm13 an13 cd13 ct13), sl13⟩) (c13 : PySem.W.codeIn K cd13 "joint_way" = true) (k13 : PySem.W.keepIn K (.ref f13) = true)
    (a14 : PySem.W.nsIn K mainGlobals "is_moving" = some (some (.ref f14))) (l14 : K.lookup f14 = some ⟨oc14, od14, .func (PySem.W.fnOf "is_moving" "is_moving" (defArgs s_is_moving) (defBody s_is_moving) (defScope s_is_moving) .none kV14 dc14 pm14 an14 cd14 ct14), sl14⟩) (c14 : PySem.W.codeIn K cd14 "is_moving" = true) (k14 : PySem.W.keepIn K (.ref f14) = true)
    (a15 : PySem.W.nsIn K mainGlobals "are_moving_names" = some (some (.ref f15))) (l15 : K.lookup f15 = some ⟨oc15, od15, .func (PySem.W.fnOf "are_moving_names" "are_moving_names" (defArgs s_are_moving_names) (defBody s_are_moving_names) (defScope s_are_moving_names) .none kV15 dc15 pm15 an15 cd15 ct15), sl15⟩) (c15 : PySem.W.codeIn K cd15 "are_moving_names" = true) (k15 : PySem.W.keepIn K (.ref f15) = true)
    (a16 : PySem.W.nsIn K mainGlobals "box_of_body" = some (some (.ref f16))) (l16 : K.lookup f16 = some ⟨oc16, od16, .func (PySem.W.fnOf "box_of_body" "box_of_body" (defArgs s_box_of_body) (defBody s_box_of_body) (defScope s_box_of_body) .none kV16 dc16 pm16 an16 cd16 ct16), sl16⟩) (c16 : PySem.W.codeIn K cd16 "box_of_body" = true) (k16 : PySem.W.keepIn K (.ref f16) = true)
    (a17 : PySem.W.nsIn K mainGlobals "places_of" = some (some (.ref f17))) (l17 : K.lookup f17 = some ⟨oc17, od17, .func (PySem.W.fnOf "places_of" "places_of" (defArgs s_places_of) (defBody s_places_of) (defScope s_places_of) .none kV17 dc17 pm17 an17 cd17 ct17), sl17⟩) (c17 : PySem.W.codeIn K cd17 "places_of" = true) (k17 : PySem.W.keepIn K (.ref f17) = true)
    (a18 : PySem.W.nsIn K mainGlobals "limbs" = some (some (.ref f18))) (l18 : K.lookup f18 = some ⟨oc18, od18, .func (PySem.W.fnOf "limbs" "limbs" (defArgs s_limbs) (defBody s_limbs) (defScope s_limbs) .none kV18 dc18 pm18 an18 cd18 ct18), sl18⟩) (c18 : PySem.W.codeIn K cd18 "limbs" = true) (k18 : PySem.W.keepIn K (.ref f18) = true)
    (a19 : PySem.W.nsIn K mainGlobals "play" = some (some (.ref f19))) (l19 : K.lookup f19 = some ⟨oc19, od19, .func (PySem.W.fnOf "play" "play" (defArgs s_play) (defBody s_play) (defScope s_play) .none kV19 dc19 pm19 an19 cd19 ct19), sl19⟩) (c19 : PySem.W.codeIn K cd19 "play" = true) (k19 : PySem.W.keepIn K (.ref f19) = true)
    (a20 : PySem.W.nsIn K mainGlobals "bounds_of" = some (some (.ref f20))) (l20 : K.lookup f20 = some ⟨oc20, od20, .func (PySem.W.fnOf "bounds_of" "bounds_of" (defArgs s_bounds_of) (defBody s_bounds_of) (defScope s_bounds_of) .none kV20 dc20 pm20 an20 cd20 ct20), sl20⟩) (c20 : PySem.W.codeIn K cd20 "bounds_of" = true) (k20 : PySem.W.keepIn K (.ref f20) = true)
    (a21 : PySem.W.nsIn K mainGlobals "most_from" = some (some (.ref f21))) (l21 : K.lookup f21 = some ⟨oc21, od21, .func (PySem.W.fnOf "most_from" "most_from" (defArgs s_most_from) (defBody s_most_from) (defScope s_most_from) .none kV21 dc21 pm21 an21 cd21 ct21), sl21⟩) (c21 : PySem.W.codeIn K cd21 "most_from" = true) (k21 : PySem.W.keepIn K (.ref f21) = true)
    (a22 : PySem.W.nsIn K mainGlobals "posed" = some (some (.ref f22))) (l22 : K.lookup f22 = some ⟨oc22, od22, .func (PySem.W.fnOf "posed" "posed" (defArgs s_posed) (defBody s_posed) (defScope s_posed) .none kV22 dc22 pm22 an22 cd22 ct22), sl22⟩) (c22 : PySem.W.codeIn K cd22 "posed" = true) (k22 : PySem.W.keepIn K (.ref f22) = true)
    (a23 : PySem.W.nsIn K mainGlobals "_law_begin" = some (some (.ref f23))) (l23 : K.lookup f23 = some ⟨oc23, od23, .func (PySem.W.fnOf "_law_begin" "_law_begin" (defArgs s_law_begin) (defBody s_law_begin) (defScope s_law_begin) .none kV23 dc23 pm23 an23 cd23 ct23), sl23⟩) (c23 : PySem.W.codeIn K cd23 "_law_begin" = true) (k23 : PySem.W.keepIn K (.ref f23) = true)
    (a24 : PySem.W.nsIn K mainGlobals "_law_take" = some (some (.ref f24))) (l24 : K.lookup f24 = some ⟨oc24, od24, .func (PySem.W.fnOf "_law_take" "_law_take" (defArgs s_law_take) (defBody s_law_take) (defScope s_law_take) .none kV24 dc24 pm24 an24 cd24 ct24), sl24⟩) (c24 : PySem.W.codeIn K cd24 "_law_take" = true) (k24 : PySem.W.keepIn K (.ref f24) = true)
    (a25 : PySem.W.nsIn K mainGlobals "_law_signed" = some (some (.ref f25))) (l25 : K.lookup f25 = some ⟨oc25, od25, .func (PySem.W.fnOf "_law_signed" "_law_signed" (defArgs s_law_signed) (defBody s_law_signed) (defScope s_law_signed) .none kV25 dc25 pm25 an25 cd25 ct25), sl25⟩) (c25 : PySem.W.codeIn K cd25 "_law_signed" = true) (k25 : PySem.W.keepIn K (.ref f25) = true)
    (a26 : PySem.W.nsIn K mainGlobals "_law_gcd" = some (some (.ref f26))) (l26 : K.lookup f26 = some ⟨oc26, od26, .func (PySem.W.fnOf "_law_gcd" "_law_gcd" (defArgs s_law_gcd) (defBody s_law_gcd) (defScope s_law_gcd) .none kV26 dc26 pm26 an26 cd26 ct26), sl26⟩) (c26 : PySem.W.codeIn K cd26 "_law_gcd" = true) (k26 : PySem.W.keepIn K (.ref f26) = true)
    (a27 : PySem.W.nsIn K mainGlobals "_law_f" = some (some (.ref f27))) (l27 : K.lookup f27 = some ⟨oc27, od27, .func (PySem.W.fnOf "_law_f" "_law_f" (defArgs s_law_f) (defBody s_law_f) (defScope s_law_f) .none kV27 dc27 pm27 an27 cd27 ct27), sl27⟩) (c27 : PySem.W.codeIn K cd27 "_law_f" = true) (k27 : PySem.W.keepIn K (.ref f27) = true)
    (a28 : PySem.W.nsIn K mainGlobals "_law_plus" = some (some (.ref f28))) (l28 : K.lookup f28 = some ⟨oc28, od28, .func (PySem.W.fnOf "_law_plus" "_law_plus" (defArgs s_law_plus) (defBody s_law_plus) (defScope s_law_plus) .none kV28 dc28 pm28 an28 cd28 ct28), sl28⟩) (c28 : PySem.W.codeIn K cd28 "_law_plus" = true) (k28 : PySem.W.keepIn K (.ref f28) = true)
    (a29 : PySem.W.nsIn K mainGlobals "_law_minus" = some (some (.ref f29))) (l29 : K.lookup f29 = some ⟨oc29, od29, .func (PySem.W.fnOf "_law_minus" "_law_minus" (defArgs s_law_minus) (defBody s_law_minus) (defScope s_law_minus) .none kV29 dc29 pm29 an29 cd29 ct29), sl29⟩) (c29 : PySem.W.codeIn K cd29 "_law_minus" = true) (k29 : PySem.W.keepIn K (.ref f29) = true)
    (a30 : PySem.W.nsIn K mainGlobals "_law_less" = some (some (.ref f30))) (l30 : K.lookup f30 = some ⟨oc30, od30, .func (PySem.W.fnOf "_law_less" "_law_less" (defArgs s_law_less) (defBody s_law_less) (defScope s_law_less) .none kV30 dc30 pm30 an30 cd30 ct30), sl30⟩) (c30 : PySem.W.codeIn K cd30 "_law_less" = true) (k30 : PySem.W.keepIn K (.ref f30) = true)
    (a31 : PySem.W.nsIn K mainGlobals "_law_max" = some (some (.ref f31))) (l31 : K.lookup f31 = some ⟨oc31, od31, .func (PySem.W.fnOf "_law_max" "_law_max" (defArgs s_law_max) (defBody s_law_max) (defScope s_law_max) .none kV31 dc31 pm31 an31 cd31 ct31), sl31⟩) (c31 : PySem.W.codeIn K cd31 "_law_max" = true) (k31 : PySem.W.keepIn K (.ref f31) = true)
    (a32 : PySem.W.nsIn K mainGlobals "_law_part" = some (some (.ref f32))) (l32 : K.lookup f32 = some ⟨oc32, od32, .func (PySem.W.fnOf "_law_part" "_law_part" (defArgs s_law_part) (defBody s_law_part) (defScope s_law_part) .none kV32 dc32 pm32 an32 cd32 ct32), sl32⟩) (c32 : PySem.W.codeIn K cd32 "_law_part" = true) (k32 : PySem.W.keepIn K (.ref f32) = true)
    (a33 : PySem.W.nsIn K mainGlobals "_law_vector" = some (some (.ref f33))) (l33 : K.lookup f33 = some ⟨oc33, od33, .func (PySem.W.fnOf "_law_vector" "_law_vector" (defArgs s_law_vector) (defBody s_law_vector) (defScope s_law_vector) .none kV33 dc33 pm33 an33 cd33 ct33), sl33⟩) (c33 : PySem.W.codeIn K cd33 "_law_vector" = true) (k33 : PySem.W.keepIn K (.ref f33) = true)
    (a34 : PySem.W.nsIn K mainGlobals "_law_high" = some (some (.ref f34))) (l34 : K.lookup f34 = some ⟨oc34, od34, .func (PySem.W.fnOf "_law_high" "_law_high" (defArgs s_law_high) (defBody s_law_high) (defScope s_law_high) .none kV34 dc34 pm34 an34 cd34 ct34), sl34⟩) (c34 : PySem.W.codeIn K cd34 "_law_high" = true) (k34 : PySem.W.keepIn K (.ref f34) = true)
    (a35 : PySem.W.nsIn K mainGlobals "_law_gap" = some (some (.ref f35))) (l35 : K.lookup f35 = some ⟨oc35, od35, .func (PySem.W.fnOf "_law_gap" "_law_gap" (defArgs s_law_gap) (defBody s_law_gap) (defScope s_law_gap) .none kV35 dc35 pm35 an35 cd35 ct35), sl35⟩) (c35 : PySem.W.codeIn K cd35 "_law_gap" = true) (k35 : PySem.W.keepIn K (.ref f35) = true)
    (a36 : PySem.W.nsIn K mainGlobals "_law_over" = some (some (.ref f36))) (l36 : K.lookup f36 = some ⟨oc36, od36, .func (PySem.W.fnOf "_law_over" "_law_over" (defArgs s_law_over) (defBody s_law_over) (defScope s_law_over) .none kV36 dc36 pm36 an36 cd36 ct36), sl36⟩) (c36 : PySem.W.codeIn K cd36 "_law_over" = true) (k36 : PySem.W.keepIn K (.ref f36) = true)
    (a37 : PySem.W.nsIn K mainGlobals "_law_size" = some (some (.ref f37))) (l37 : K.lookup f37 = some ⟨oc37, od37, .func (PySem.W.fnOf "_law_size" "_law_size" (defArgs s_law_size) (defBody s_law_size) (defScope s_law_size) .none kV37 dc37 pm37 an37 cd37 ct37), sl37⟩) (c37 : PySem.W.codeIn K cd37 "_law_size" = true) (k37 : PySem.W.keepIn K (.ref f37) = true)
    (a38 : PySem.W.nsIn K mainGlobals "_law_beside" = some (some (.ref f38))) (l38 : K.lookup f38 = some ⟨oc38, od38, .func (PySem.W.fnOf "_law_beside" "_law_beside" (defArgs s_law_beside) (defBody s_law_beside) (defScope s_law_beside) .none kV38 dc38 pm38 an38 cd38 ct38), sl38⟩) (c38 : PySem.W.codeIn K cd38 "_law_beside" = true) (k38 : PySem.W.keepIn K (.ref f38) = true)
    (a39 : PySem.W.nsIn K mainGlobals "_law_box" = some (some (.ref f39))) (l39 : K.lookup f39 = some ⟨oc39, od39, .func (PySem.W.fnOf "_law_box" "_law_box" (defArgs s_law_box) (defBody s_law_box) (defScope s_law_box) .none kV39 dc39 pm39 an39 cd39 ct39), sl39⟩) (c39 : PySem.W.codeIn K cd39 "_law_box" = true) (k39 : PySem.W.keepIn K (.ref f39) = true)
    (a40 : PySem.W.nsIn K mainGlobals "_law_bodies" = some (some (.ref f40))) (l40 : K.lookup f40 = some ⟨oc40, od40, .func (PySem.W.fnOf "_law_bodies" "_law_bodies" (defArgs s_law_bodies) (defBody s_law_bodies) (defScope s_law_bodies) .none kV40 dc40 pm40 an40 cd40 ct40), sl40⟩) (c40 : PySem.W.codeIn K cd40 "_law_bodies" = true) (k40 : PySem.W.keepIn K (.ref f40) = true)
    (a41 : PySem.W.nsIn K mainGlobals "_law_joints" = some (some (.ref f41))) (l41 : K.lookup f41 = some ⟨oc41, od41, .func (PySem.W.fnOf "_law_joints" "_law_joints" (defArgs s_law_joints) (defBody s_law_joints) (defScope s_law_joints) .none kV41 dc41 pm41 an41 cd41 ct41), sl41⟩) (c41 : PySem.W.codeIn K cd41 "_law_joints" = true) (k41 : PySem.W.keepIn K (.ref f41) = true)
    (a42 : PySem.W.nsIn K mainGlobals "_law_class" = some (some (.ref f42))) (l42 : K.lookup f42 = some ⟨oc42, od42, .func (PySem.W.fnOf "_law_class" "_law_class" (defArgs s_law_class) (defBody s_law_class) (defScope s_law_class) .none kV42 dc42 pm42 an42 cd42 ct42), sl42⟩) (c42 : PySem.W.codeIn K cd42 "_law_class" = true) (k42 : PySem.W.keepIn K (.ref f42) = true)
    (a43 : PySem.W.nsIn K mainGlobals "_law_told" = some (some (.ref f43))) (l43 : K.lookup f43 = some ⟨oc43, od43, .func (PySem.W.fnOf "_law_told" "_law_told" (defArgs s_law_told) (defBody s_law_told) (defScope s_law_told) .none kV43 dc43 pm43 an43 cd43 ct43), sl43⟩) (c43 : PySem.W.codeIn K cd43 "_law_told" = true) (k43 : PySem.W.keepIn K (.ref f43) = true)
    (a44 : PySem.W.nsIn K mainGlobals "_law_can" = some (some (.ref f44))) (l44 : K.lookup f44 = some ⟨oc44, od44, .func (PySem.W.fnOf "_law_can" "_law_can" (defArgs s_law_can) (defBody s_law_can) (defScope s_law_can) .none kV44 dc44 pm44 an44 cd44 ct44), sl44⟩) (c44 : PySem.W.codeIn K cd44 "_law_can" = true) (k44 : PySem.W.keepIn K (.ref f44) = true)
    (a45 : PySem.W.nsIn K mainGlobals "_law_ends" = some (some (.ref f45))) (l45 : K.lookup f45 = some ⟨oc45, od45, .func (PySem.W.fnOf "_law_ends" "_law_ends" (defArgs s_law_ends) (defBody s_law_ends) (defScope s_law_ends) .none kV45 dc45 pm45 an45 cd45 ct45), sl45⟩) (c45 : PySem.W.codeIn K cd45 "_law_ends" = true) (k45 : PySem.W.keepIn K (.ref f45) = true)
    (a46 : PySem.W.nsIn K mainGlobals "_law_groups" = some (some (.ref f46))) (l46 : K.lookup f46 = some ⟨oc46, od46, .func (PySem.W.fnOf "_law_groups" "_law_groups" (defArgs s_law_groups) (defBody s_law_groups) (defScope s_law_groups) .none kV46 dc46 pm46 an46 cd46 ct46), sl46⟩) (c46 : PySem.W.codeIn K cd46 "_law_groups" = true) (k46 : PySem.W.keepIn K (.ref f46) = true)
    (a47 : PySem.W.nsIn K mainGlobals "_law_posed" = some (some (.ref f47))) (l47 : K.lookup f47 = some ⟨oc47, od47, .func (PySem.W.fnOf "_law_posed" "_law_posed" (defArgs s_law_posed) (defBody s_law_posed) (defScope s_law_posed) .none kV47 dc47 pm47 an47 cd47 ct47), sl47⟩) (c47 : PySem.W.codeIn K cd47 "_law_posed" = true) (k47 : PySem.W.keepIn K (.ref f47) = true)
    (a48 : PySem.W.nsIn K mainGlobals "law" = some (some (.ref f48))) (l48 : K.lookup f48 = some ⟨oc48, od48, .func (PySem.W.fnOf "law" "law" (defArgs s_law) (defBody s_law) (defScope s_law) .none kV48 dc48 pm48 an48 cd48 ct48), sl48⟩) (c48 : PySem.W.codeIn K cd48 "law" = true) (k48 : PySem.W.keepIn K (.ref f48) = true)
    {tca_ends_overlap tpa_ends_overlap : Addr} {uc_ends_overlap : Value} {ud_ends_overlap : Option Addr} {uv_ends_overlap : Array Value} {us_ends_overlap : Array (Option Value)} (ce_ends_overlap : cd6 = .ref tca_ends_overlap) (u_ends_overlap : K.lookup tca_ends_overlap = some ⟨uc_ends_overlap, ud_ends_overlap, .fields uv_ends_overlap, us_ends_overlap⟩) (uw_ends_overlap : (uv_ends_overlap[11]? : Option Value) = some (.ref tpa_ends_overlap)) (tn_ends_overlap : K.lookup tpa_ends_overlap = none) (tr_ends_overlap : ((PyProof.Rows.recsOf qq).any fun e => e.name == "ends_overlap") = true)
    {kk_ZERO : Addr} {kd_ZERO : Option Addr} {ksl_ZERO : Array (Option Value)} {kn_ZERO : Nat} {kt_ZERO_0 kt_ZERO_1 : Tok}
    (ka_ZERO : PySem.W.nsIn K mainGlobals "ZERO" = some (some (.ref kk_ZERO))) (kl_ZERO : K.lookup kk_ZERO = some ⟨.type "tuple", kd_ZERO, .seq #[.int (0) kt_ZERO_0, .int (1) kt_ZERO_1] kn_ZERO, ksl_ZERO⟩)
    {kt_BODY_LIMIT : Tok} (ka_BODY_LIMIT : PySem.W.nsIn K mainGlobals "BODY_LIMIT" = some (some (.int 24 kt_BODY_LIMIT)))
    {kt_JOINT_LIMIT : Tok} (ka_JOINT_LIMIT : PySem.W.nsIn K mainGlobals "JOINT_LIMIT" = some (some (.int 24 kt_JOINT_LIMIT)))
    {kt_MASS_LIMIT : Tok} (ka_MASS_LIMIT : PySem.W.nsIn K mainGlobals "MASS_LIMIT" = some (some (.int 1000 kt_MASS_LIMIT)))
    {kt_NAME_LIMIT : Tok} (ka_NAME_LIMIT : PySem.W.nsIn K mainGlobals "NAME_LIMIT" = some (some (.int 999999999 kt_NAME_LIMIT)))
    {kk_GRIP_LIMIT : Addr} {kd_GRIP_LIMIT : Option Addr} {ksl_GRIP_LIMIT : Array (Option Value)} {kn_GRIP_LIMIT : Nat} {kt_GRIP_LIMIT_0 kt_GRIP_LIMIT_1 : Tok}
    (ka_GRIP_LIMIT : PySem.W.nsIn K mainGlobals "GRIP_LIMIT" = some (some (.ref kk_GRIP_LIMIT))) (kl_GRIP_LIMIT : K.lookup kk_GRIP_LIMIT = some ⟨.type "tuple", kd_GRIP_LIMIT, .seq #[.int (4) kt_GRIP_LIMIT_0, .int (1) kt_GRIP_LIMIT_1] kn_GRIP_LIMIT, ksl_GRIP_LIMIT⟩)
    {kk_STANDING : Addr} {kd_STANDING : Option Addr} {ksl_STANDING : Array (Option Value)} {kn_STANDING : Nat}
    (ka_STANDING : PySem.W.nsIn K mainGlobals "STANDING" = some (some (.ref kk_STANDING)))
    {kk_STANDING_0 : Addr} {kd_STANDING_0 : Option Addr} {ksl_STANDING_0 : Array (Option Value)} {kn_STANDING_0 : Nat} {kt_STANDING_0_0 kt_STANDING_0_1 : Tok}
    {kk_STANDING_1 : Addr} {kd_STANDING_1 : Option Addr} {ksl_STANDING_1 : Array (Option Value)} {kn_STANDING_1 : Nat} {kt_STANDING_1_0 kt_STANDING_1_1 : Tok}
    (kl_STANDING : K.lookup kk_STANDING = some ⟨.type "tuple", kd_STANDING, .seq #[.ref kk_STANDING_0, .ref kk_STANDING_1] kn_STANDING, ksl_STANDING⟩)
    (kl_STANDING_0 : K.lookup kk_STANDING_0 = some ⟨.type "tuple", kd_STANDING_0, .seq #[.int (0) kt_STANDING_0_0, .int (1) kt_STANDING_0_1] kn_STANDING_0, ksl_STANDING_0⟩)
    (kl_STANDING_1 : K.lookup kk_STANDING_1 = some ⟨.type "tuple", kd_STANDING_1, .seq #[.int (0) kt_STANDING_1_0, .int (1) kt_STANDING_1_1] kn_STANDING_1, ksl_STANDING_1⟩)
    {xx_SteadyError xx_AxisError xx_IdError xx_TooLarge xx_BodyError xx_OverlapError xx_JointError : Addr}
    (ea_SteadyError : PySem.W.nsIn K mainGlobals "SteadyError" = some (some (.ref xx_SteadyError))) (ex_SteadyError : PySem.W.excIn K xx_SteadyError [.type "ValueError", .type "Exception", .type "BaseException", .type "object"] "ValueError.__new__" = true) (ek_SteadyError : PySem.W.keepIn K (.ref xx_SteadyError) = true) (eb_SteadyError : PySem.W.subIn K (.ref xx_SteadyError) (.type "BaseException") = some true) (et_SteadyError : PySem.W.typeIn K (.ref xx_SteadyError) = some (.type "type")) (eh_SteadyError : PySem.W.hasDictIn K xx_SteadyError = true)
    (ea_AxisError : PySem.W.nsIn K mainGlobals "AxisError" = some (some (.ref xx_AxisError))) (ex_AxisError : PySem.W.excIn K xx_AxisError [.type "ValueError", .type "Exception", .type "BaseException", .type "object"] "ValueError.__new__" = true) (ek_AxisError : PySem.W.keepIn K (.ref xx_AxisError) = true) (eb_AxisError : PySem.W.subIn K (.ref xx_AxisError) (.type "BaseException") = some true) (et_AxisError : PySem.W.typeIn K (.ref xx_AxisError) = some (.type "type")) (eh_AxisError : PySem.W.hasDictIn K xx_AxisError = true)
    (ea_IdError : PySem.W.nsIn K mainGlobals "IdError" = some (some (.ref xx_IdError))) (ex_IdError : PySem.W.excIn K xx_IdError [.type "ValueError", .type "Exception", .type "BaseException", .type "object"] "ValueError.__new__" = true) (ek_IdError : PySem.W.keepIn K (.ref xx_IdError) = true) (eb_IdError : PySem.W.subIn K (.ref xx_IdError) (.type "BaseException") = some true) (et_IdError : PySem.W.typeIn K (.ref xx_IdError) = some (.type "type")) (eh_IdError : PySem.W.hasDictIn K xx_IdError = true)
    (ea_TooLarge : PySem.W.nsIn K mainGlobals "TooLarge" = some (some (.ref xx_TooLarge))) (ex_TooLarge : PySem.W.excIn K xx_TooLarge [.type "ValueError", .type "Exception", .type "BaseException", .type "object"] "ValueError.__new__" = true) (ek_TooLarge : PySem.W.keepIn K (.ref xx_TooLarge) = true) (eb_TooLarge : PySem.W.subIn K (.ref xx_TooLarge) (.type "BaseException") = some true) (et_TooLarge : PySem.W.typeIn K (.ref xx_TooLarge) = some (.type "type")) (eh_TooLarge : PySem.W.hasDictIn K xx_TooLarge = true)
    (ea_BodyError : PySem.W.nsIn K mainGlobals "BodyError" = some (some (.ref xx_BodyError))) (ex_BodyError : PySem.W.excIn K xx_BodyError [.type "ValueError", .type "Exception", .type "BaseException", .type "object"] "ValueError.__new__" = true) (ek_BodyError : PySem.W.keepIn K (.ref xx_BodyError) = true) (eb_BodyError : PySem.W.subIn K (.ref xx_BodyError) (.type "BaseException") = some true) (et_BodyError : PySem.W.typeIn K (.ref xx_BodyError) = some (.type "type")) (eh_BodyError : PySem.W.hasDictIn K xx_BodyError = true)
    (ea_OverlapError : PySem.W.nsIn K mainGlobals "OverlapError" = some (some (.ref xx_OverlapError))) (ex_OverlapError : PySem.W.excIn K xx_OverlapError [.type "ValueError", .type "Exception", .type "BaseException", .type "object"] "ValueError.__new__" = true) (ek_OverlapError : PySem.W.keepIn K (.ref xx_OverlapError) = true) (eb_OverlapError : PySem.W.subIn K (.ref xx_OverlapError) (.type "BaseException") = some true) (et_OverlapError : PySem.W.typeIn K (.ref xx_OverlapError) = some (.type "type")) (eh_OverlapError : PySem.W.hasDictIn K xx_OverlapError = true)
    (ea_JointError : PySem.W.nsIn K mainGlobals "JointError" = some (some (.ref xx_JointError))) (ex_JointError : PySem.W.excIn K xx_JointError [.type "ValueError", .type "Exception", .type "BaseException", .type "object"] "ValueError.__new__" = true) (ek_JointError : PySem.W.keepIn K (.ref xx_JointError) = true) (eb_JointError : PySem.W.subIn K (.ref xx_JointError) (.type "BaseException") = some true) (et_JointError : PySem.W.typeIn K (.ref xx_JointError) = some (.type "type")) (eh_JointError : PySem.W.hasDictIn K xx_JointError = true)
    (es_SteadyError_SteadyError : PySem.W.subIn K (.ref xx_SteadyError) (.ref xx_SteadyError) = some true)
    (es_AxisError_AxisError : PySem.W.subIn K (.ref xx_AxisError) (.ref xx_AxisError) = some true)
    (es_AxisError_SteadyError : PySem.W.subIn K (.ref xx_AxisError) (.ref xx_SteadyError) = some true)
    (es_IdError_IdError : PySem.W.subIn K (.ref xx_IdError) (.ref xx_IdError) = some true)
    (es_IdError_SteadyError : PySem.W.subIn K (.ref xx_IdError) (.ref xx_SteadyError) = some true)
    (es_TooLarge_TooLarge : PySem.W.subIn K (.ref xx_TooLarge) (.ref xx_TooLarge) = some true)
    (es_TooLarge_SteadyError : PySem.W.subIn K (.ref xx_TooLarge) (.ref xx_SteadyError) = some true)
    (es_BodyError_BodyError : PySem.W.subIn K (.ref xx_BodyError) (.ref xx_BodyError) = some true)
    (es_BodyError_SteadyError : PySem.W.subIn K (.ref xx_BodyError) (.ref xx_SteadyError) = some true)
    (es_OverlapError_OverlapError : PySem.W.subIn K (.ref xx_OverlapError) (.ref xx_OverlapError) = some true)
    (es_OverlapError_SteadyError : PySem.W.subIn K (.ref xx_OverlapError) (.ref xx_SteadyError) = some true)
    (es_JointError_JointError : PySem.W.subIn K (.ref xx_JointError) (.ref xx_JointError) = some true)
    (es_JointError_SteadyError : PySem.W.subIn K (.ref xx_JointError) (.ref xx_SteadyError) = some true)
    (eo_AxisError_IdError : PySem.W.subIn K (.ref xx_AxisError) (.ref xx_IdError) = some false)
    (eo_AxisError_OverlapError : PySem.W.subIn K (.ref xx_AxisError) (.ref xx_OverlapError) = some false)
    (eo_AxisError_JointError : PySem.W.subIn K (.ref xx_AxisError) (.ref xx_JointError) = some false)
    (eo_IdError_AxisError : PySem.W.subIn K (.ref xx_IdError) (.ref xx_AxisError) = some false)
    (eo_IdError_OverlapError : PySem.W.subIn K (.ref xx_IdError) (.ref xx_OverlapError) = some false)
    (eo_IdError_JointError : PySem.W.subIn K (.ref xx_IdError) (.ref xx_JointError) = some false)
    (eo_TooLarge_AxisError : PySem.W.subIn K (.ref xx_TooLarge) (.ref xx_AxisError) = some false)
    (eo_TooLarge_IdError : PySem.W.subIn K (.ref xx_TooLarge) (.ref xx_IdError) = some false)
    (eo_TooLarge_OverlapError : PySem.W.subIn K (.ref xx_TooLarge) (.ref xx_OverlapError) = some false)
    (eo_TooLarge_JointError : PySem.W.subIn K (.ref xx_TooLarge) (.ref xx_JointError) = some false)
    (eo_BodyError_AxisError : PySem.W.subIn K (.ref xx_BodyError) (.ref xx_AxisError) = some false)
    (eo_BodyError_IdError : PySem.W.subIn K (.ref xx_BodyError) (.ref xx_IdError) = some false)
    (eo_BodyError_OverlapError : PySem.W.subIn K (.ref xx_BodyError) (.ref xx_OverlapError) = some false)
    (eo_BodyError_JointError : PySem.W.subIn K (.ref xx_BodyError) (.ref xx_JointError) = some false)
    (eo_OverlapError_AxisError : PySem.W.subIn K (.ref xx_OverlapError) (.ref xx_AxisError) = some false)
    (eo_OverlapError_IdError : PySem.W.subIn K (.ref xx_OverlapError) (.ref xx_IdError) = some false)
    (eo_OverlapError_JointError : PySem.W.subIn K (.ref xx_OverlapError) (.ref xx_JointError) = some false)
    (eo_JointError_AxisError : PySem.W.subIn K (.ref xx_JointError) (.ref xx_AxisError) = some false)
    (eo_JointError_IdError : PySem.W.subIn K (.ref xx_JointError) (.ref xx_IdError) = some false)
    (eo_JointError_OverlapError : PySem.W.subIn K (.ref xx_JointError) (.ref xx_OverlapError) = some false)
    (ei1_AxisError : PySem.W.findIn K (.ref xx_AxisError) "__getattribute__" = some (some (.builtin "BaseException.__getattribute__"))) (ei2_AxisError : PySem.W.findIn K (.ref xx_AxisError) "__getattr__" = some none) (ei3_AxisError : PySem.W.findIn K (.ref xx_AxisError) "__class__" = some (some (.builtin "object.__class__"))) (ei4_AxisError : PySem.W.specialIn K (.builtin "object.__class__") "__get__" = some (some (.builtin "getset_descriptor.__get__"))) (ei5_AxisError : PySem.W.takesIn K (.builtin "object.__class__") = some true) (ei6_AxisError : PySem.W.mroIn K xx_AxisError (.type "object") = some true)
    (ei1_IdError : PySem.W.findIn K (.ref xx_IdError) "__getattribute__" = some (some (.builtin "BaseException.__getattribute__"))) (ei2_IdError : PySem.W.findIn K (.ref xx_IdError) "__getattr__" = some none) (ei3_IdError : PySem.W.findIn K (.ref xx_IdError) "__class__" = some (some (.builtin "object.__class__"))) (ei4_IdError : PySem.W.specialIn K (.builtin "object.__class__") "__get__" = some (some (.builtin "getset_descriptor.__get__"))) (ei5_IdError : PySem.W.takesIn K (.builtin "object.__class__") = some true) (ei6_IdError : PySem.W.mroIn K xx_IdError (.type "object") = some true)
    (ei1_TooLarge : PySem.W.findIn K (.ref xx_TooLarge) "__getattribute__" = some (some (.builtin "BaseException.__getattribute__"))) (ei2_TooLarge : PySem.W.findIn K (.ref xx_TooLarge) "__getattr__" = some none) (ei3_TooLarge : PySem.W.findIn K (.ref xx_TooLarge) "__class__" = some (some (.builtin "object.__class__"))) (ei4_TooLarge : PySem.W.specialIn K (.builtin "object.__class__") "__get__" = some (some (.builtin "getset_descriptor.__get__"))) (ei5_TooLarge : PySem.W.takesIn K (.builtin "object.__class__") = some true) (ei6_TooLarge : PySem.W.mroIn K xx_TooLarge (.type "object") = some true)
    (ei1_BodyError : PySem.W.findIn K (.ref xx_BodyError) "__getattribute__" = some (some (.builtin "BaseException.__getattribute__"))) (ei2_BodyError : PySem.W.findIn K (.ref xx_BodyError) "__getattr__" = some none) (ei3_BodyError : PySem.W.findIn K (.ref xx_BodyError) "__class__" = some (some (.builtin "object.__class__"))) (ei4_BodyError : PySem.W.specialIn K (.builtin "object.__class__") "__get__" = some (some (.builtin "getset_descriptor.__get__"))) (ei5_BodyError : PySem.W.takesIn K (.builtin "object.__class__") = some true) (ei6_BodyError : PySem.W.mroIn K xx_BodyError (.type "object") = some true)
    (ei1_OverlapError : PySem.W.findIn K (.ref xx_OverlapError) "__getattribute__" = some (some (.builtin "BaseException.__getattribute__"))) (ei2_OverlapError : PySem.W.findIn K (.ref xx_OverlapError) "__getattr__" = some none) (ei3_OverlapError : PySem.W.findIn K (.ref xx_OverlapError) "__class__" = some (some (.builtin "object.__class__"))) (ei4_OverlapError : PySem.W.specialIn K (.builtin "object.__class__") "__get__" = some (some (.builtin "getset_descriptor.__get__"))) (ei5_OverlapError : PySem.W.takesIn K (.builtin "object.__class__") = some true) (ei6_OverlapError : PySem.W.mroIn K xx_OverlapError (.type "object") = some true)
    (ei1_JointError : PySem.W.findIn K (.ref xx_JointError) "__getattribute__" = some (some (.builtin "BaseException.__getattribute__"))) (ei2_JointError : PySem.W.findIn K (.ref xx_JointError) "__getattr__" = some none) (ei3_JointError : PySem.W.findIn K (.ref xx_JointError) "__class__" = some (some (.builtin "object.__class__"))) (ei4_JointError : PySem.W.specialIn K (.builtin "object.__class__") "__get__" = some (some (.builtin "getset_descriptor.__get__"))) (ei5_JointError : PySem.W.takesIn K (.builtin "object.__class__") = some true) (ei6_JointError : PySem.W.mroIn K xx_JointError (.type "object") = some true)
    (z_abs : PySem.W.nsIn K mainGlobals "abs" = some none)
    (z_all : PySem.W.nsIn K mainGlobals "all" = some none)
    (z_any : PySem.W.nsIn K mainGlobals "any" = some none)
    (z_dict : PySem.W.nsIn K mainGlobals "dict" = some none)
    (z_enumerate : PySem.W.nsIn K mainGlobals "enumerate" = some none)
    (z_int : PySem.W.nsIn K mainGlobals "int" = some none)
    (z_isinstance : PySem.W.nsIn K mainGlobals "isinstance" = some none)
    (z_len : PySem.W.nsIn K mainGlobals "len" = some none)
    (z_list : PySem.W.nsIn K mainGlobals "list" = some none)
    (z_min : PySem.W.nsIn K mainGlobals "min" = some none)
    (z_range : PySem.W.nsIn K mainGlobals "range" = some none)
    (z_set : PySem.W.nsIn K mainGlobals "set" = some none)
    (z_sorted : PySem.W.nsIn K mainGlobals "sorted" = some none)
    (z_tuple : PySem.W.nsIn K mainGlobals "tuple" = some none)
    (z_zip : PySem.W.nsIn K mainGlobals "zip" = some none)
    (z_gcd : PySem.W.nsIn K mainGlobals "gcd" = some (some (.builtin "math.gcd"))) :
    LamX.LawAtS PySem.Challenge.rw_steadybodies_k43_limbs_and_their_play w K CX0 8 63 "script" mg fa h := by
  have tt_ends_overlap := PL.tab_in a6 l6 ce_ends_overlap u_ends_overlap uw_ends_overlap
  have e := hfa.symm.trans (PySem.W.mg_of X G a48)
  have e : fa = f48 := by cases e; rfl
  have F0 := fun_mk (st := s_plus) l0 c0 k0
  have b0 := F0.binds (ps := ["a", "b"]) fun _ _ _ _ _ _ us hl => match us, hl with | [_, _], _ => rfl
  have F1 := fun_mk (st := s_minus) l1 c1 k1
  have b1 := F1.binds (ps := ["a", "b"]) fun _ _ _ _ _ _ us hl => match us, hl with | [_, _], _ => rfl
  have F2 := fun_mk (st := s_compare) l2 c2 k2
  have b2 := F2.binds (ps := ["a", "b"]) fun _ _ _ _ _ _ us hl => match us, hl with | [_, _], _ => rfl
  have F3 := fun_mk (st := s_is_sized) l3 c3 k3
  have b3 := F3.binds (ps := ["size"]) fun _ _ _ _ _ _ us hl => match us, hl with | [_], _ => rfl
  have F4 := fun_mk (st := s_check_axis) l4 c4 k4
  have b4 := F4.binds (ps := ["axis"]) fun _ _ _ _ _ _ us hl => match us, hl with | [_], _ => rfl
  have F5 := fun_mk (st := s_ends_of) l5 c5 k5
  have b5 := F5.binds (ps := ["box"]) fun _ _ _ _ _ _ us hl => match us, hl with | [_], _ => rfl
  have F6 := PL.funC_mk (st := s_ends_overlap) l6 (PL.code_eq a6 l6 tt_ends_overlap) c6 k6
  have b6 := F6.of.binds (ps := ["one", "other"]) fun _ _ _ _ _ _ us hl => match us, hl with | [_, _], _ => rfl
  have F7 := fun_mk (st := s_linked_sets) l7 c7 k7
  have b7 := F7.binds (ps := ["names", "links"]) fun _ _ _ _ _ _ us hl => match us, hl with | [_, _], _ => rfl
  have F8 := fun_mk (st := s_check_state) l8 c8 k8
  have b8 := F8.binds (ps := ["state"]) fun _ _ _ _ _ _ us hl => match us, hl with | [_], _ => rfl
  have F9 := fun_mk (st := s_check_bodies) l9 c9 k9
  have b9 := F9.binds (ps := ["bodies"]) fun _ _ _ _ _ _ us hl => match us, hl with | [_], _ => rfl
  have F10 := fun_mk (st := s_is_body_sound) l10 c10 k10
  have b10 := F10.binds (ps := ["body"]) fun _ _ _ _ _ _ us hl => match us, hl with | [_], _ => rfl
  have F11 := fun_mk (st := s_check_overlaps) l11 c11 k11
  have b11 := F11.binds (ps := ["bodies"]) fun _ _ _ _ _ _ us hl => match us, hl with | [_], _ => rfl
  have F12 := fun_mk (st := s_check_joint) l12 c12 k12
  have b12 := F12.binds (ps := ["places", "joint"]) fun _ _ _ _ _ _ us hl => match us, hl with | [_, _], _ => rfl
  have F13 := fun_mk (st := s_joint_way) l13 c13 k13
  have b13 := F13.binds (ps := ["places", "joint"]) fun _ _ _ _ _ _ us hl => match us, hl with | [_, _], _ => rfl
  have F14 := fun_mk (st := s_is_moving) l14 c14 k14
  have b14 := F14.binds (ps := ["body"]) fun _ _ _ _ _ _ us hl => match us, hl with | [_], _ => rfl
  have F15 := fun_mk (st := s_are_moving_names) l15 c15 k15
  have b15 := F15.binds (ps := ["bodies", "names"]) fun _ _ _ _ _ _ us hl => match us, hl with | [_, _], _ => rfl
  have F16 := fun_mk (st := s_box_of_body) l16 c16 k16
  have b16 := F16.binds (ps := ["body"]) fun _ _ _ _ _ _ us hl => match us, hl with | [_], _ => rfl
  have F17 := fun_mk (st := s_places_of) l17 c17 k17
  have b17 := F17.binds (ps := ["bodies"]) fun _ _ _ _ _ _ us hl => match us, hl with | [_], _ => rfl
  have F18 := fun_mk (st := s_limbs) l18 c18 k18
  have b18 := F18.binds (ps := ["state"]) fun _ _ _ _ _ _ us hl => match us, hl with | [_], _ => rfl
  have F19 := fun_mk (st := s_play) l19 c19 k19
  have b19 := F19.binds (ps := ["state", "one", "other", "axis"]) fun _ _ _ _ _ _ us hl => match us, hl with | [_, _, _, _], _ => rfl
  have F20 := fun_mk (st := s_bounds_of) l20 c20 k20
  have b20 := F20.binds (ps := ["state", "axis"]) fun _ _ _ _ _ _ us hl => match us, hl with | [_, _], _ => rfl
  have F21 := fun_mk (st := s_most_from) l21 c21 k21
  have b21 := F21.binds (ps := ["bounds", "start"]) fun _ _ _ _ _ _ us hl => match us, hl with | [_, _], _ => rfl
  have F22 := fun_mk (st := s_posed) l22 c22 k22
  have b22 := F22.binds (ps := ["state", "places"]) fun _ _ _ _ _ _ us hl => match us, hl with | [_, _], _ => rfl
  have F23 := fun_mk (st := s_law_begin) l23 c23 k23
  have b23 := F23.binds (ps := ["script"]) fun _ _ _ _ _ _ us hl => match us, hl with | [_], _ => rfl
  have F24 := fun_mk (st := s_law_take) l24 c24 k24
  have b24 := F24.binds (ps := ["d", "many"]) fun _ _ _ _ _ _ us hl => match us, hl with | [_, _], _ => rfl
  have F25 := fun_mk (st := s_law_signed) l25 c25 k25
  have b25 := F25.binds (ps := ["d", "most"]) fun _ _ _ _ _ _ us hl => match us, hl with | [_, _], _ => rfl
  have F26 := fun_mk (st := s_law_gcd) l26 c26 k26
  have b26 := F26.binds (ps := ["a", "b"]) fun _ _ _ _ _ _ us hl => match us, hl with | [_, _], _ => rfl
  have F27 := fun_mk (st := s_law_f) l27 c27 k27
  have b27 := F27.binds (ps := ["a", "b"]) fun _ _ _ _ _ _ us hl => match us, hl with | [_, _], _ => rfl
  have F28 := fun_mk (st := s_law_plus) l28 c28 k28
  have b28 := F28.binds (ps := ["a", "b"]) fun _ _ _ _ _ _ us hl => match us, hl with | [_, _], _ => rfl
  have F29 := fun_mk (st := s_law_minus) l29 c29 k29
  have b29 := F29.binds (ps := ["a", "b"]) fun _ _ _ _ _ _ us hl => match us, hl with | [_, _], _ => rfl
  have F30 := fun_mk (st := s_law_less) l30 c30 k30
  have b30 := F30.binds (ps := ["a", "b"]) fun _ _ _ _ _ _ us hl => match us, hl with | [_, _], _ => rfl
  have F31 := fun_mk (st := s_law_max) l31 c31 k31
  have b31 := F31.binds (ps := ["a", "b"]) fun _ _ _ _ _ _ us hl => match us, hl with | [_, _], _ => rfl
  have F32 := fun_mk (st := s_law_part) l32 c32 k32
  have b32 := F32.binds (ps := ["d", "most"]) fun _ _ _ _ _ _ us hl => match us, hl with | [_, _], _ => rfl
  have F33 := fun_mk (st := s_law_vector) l33 c33 k33
  have b33 := F33.binds (ps := ["d", "most"]) fun _ _ _ _ _ _ us hl => match us, hl with | [_, _], _ => rfl
  have F34 := fun_mk (st := s_law_high) l34 c34 k34
  have b34 := F34.binds (ps := ["box", "k"]) fun _ _ _ _ _ _ us hl => match us, hl with | [_, _], _ => rfl
  have F35 := fun_mk (st := s_law_gap) l35 c35 k35
  have b35 := F35.binds (ps := ["a", "b", "k"]) fun _ _ _ _ _ _ us hl => match us, hl with | [_, _, _], _ => rfl
  have F36 := fun_mk (st := s_law_over) l36 c36 k36
  have b36 := F36.binds (ps := ["a", "b"]) fun _ _ _ _ _ _ us hl => match us, hl with | [_, _], _ => rfl
  have F37 := fun_mk (st := s_law_size) l37 c37 k37
  have b37 := F37.binds (ps := ["d"]) fun _ _ _ _ _ _ us hl => match us, hl with | [_], _ => rfl
  have F38 := fun_mk (st := s_law_beside) l38 c38 k38
  have b38 := F38.binds (ps := ["d", "box", "size"]) fun _ _ _ _ _ _ us hl => match us, hl with | [_, _, _], _ => rfl
  have F39 := fun_mk (st := s_law_box) l39 c39 k39
  have b39 := F39.binds (ps := ["d", "boxes"]) fun _ _ _ _ _ _ us hl => match us, hl with | [_, _], _ => rfl
  have F40 := fun_mk (st := s_law_bodies) l40 c40 k40
  have b40 := F40.binds (ps := ["d", "many", "fixed"]) fun _ _ _ _ _ _ us hl => match us, hl with | [_, _, _], _ => rfl
  have F41 := fun_mk (st := s_law_joints) l41 c41 k41
  have b41 := F41.binds (ps := ["d", "bodies", "many"]) fun _ _ _ _ _ _ us hl => match us, hl with | [_, _, _], _ => rfl
  have F42 := fun_mk (st := s_law_class) l42 c42 k42
  have b42 := F42.binds (ps := ["e"]) fun _ _ _ _ _ _ us hl => match us, hl with | [_], _ => rfl
  have F43 := fun_mk (st := s_law_told) l43 c43 k43
  have b43 := F43.binds (ps := ["which", "state", "a", "b", "c"]) fun _ _ _ _ _ _ us hl => match us, hl with | [_, _, _, _, _], _ => rfl
  have F44 := fun_mk (st := s_law_can) l44 c44 k44
  have b44 := F44.binds (ps := ["state", "axis", "one", "other", "gap"]) fun _ _ _ _ _ _ us hl => match us, hl with | [_, _, _, _, _], _ => rfl
  have F45 := fun_mk (st := s_law_ends) l45 c45 k45
  have b45 := F45.binds (ps := ["state", "axis", "one", "other", "told"]) fun _ _ _ _ _ _ us hl => match us, hl with | [_, _, _, _, _], _ => rfl
  have F46 := fun_mk (st := s_law_groups) l46 c46 k46
  have b46 := F46.binds (ps := ["state"]) fun _ _ _ _ _ _ us hl => match us, hl with | [_], _ => rfl
  have F47 := fun_mk (st := s_law_posed) l47 c47 k47
  have b47 := F47.binds (ps := ["state", "places"]) fun _ _ _ _ _ _ us hl => match us, hl with | [_, _], _ => rfl
  have F48 := fun_mk (st := s_law) l48 c48 k48
  have b48 := F48.binds (ps := ["script"]) fun _ _ _ _ _ _ us hl => match us, hl with | [_], _ => rfl
  have y_ends_overlap := htab "ends_overlap" _ _ tr_ends_overlap tt_ends_overlap
  letI : PL.Nm := ⟨fun _ => ("" : Str)⟩
  refine ⟨PySem.W.fnOf "law" "law" (defArgs s_law) (defBody s_law) (defScope s_law) .none kV48 dc48 pm48 an48 cd48 ct48, [(tca_ends_overlap, tpa_ends_overlap)], spLawT K ⟨[tpa_ends_overlap], []⟩, ?_, ?_, ?_, fun s v => .of_eq rfl, fun H a ns hl hb hH hS => ⟨a, ns, rfl, hS, hl, PL.start_tabs hS ?_ ?_, fun _ => rfl⟩, fun base _ _ hTB => ?_⟩
  · intro p hp
    simp only [List.mem_cons, List.not_mem_nil, or_false] at hp
    subst hp
    exact y_ends_overlap.2
  · intro p hp
    simp only [List.mem_cons, List.not_mem_nil, or_false] at hp
    subst hp
    exact tn_ends_overlap
  · intro p hp
    simp only [List.mem_cons, List.not_mem_nil, or_false] at hp
    subst hp
    exact y_ends_overlap.1
  · intro p hp
    simp only [List.mem_cons, List.not_mem_nil, or_false] at hp
    rcases hp with hp
    · exact ⟨#[], by rw [hp]; exact hH (tca_ends_overlap, tpa_ends_overlap) List.mem_cons_self, True.intro, fun hz => by cases hz⟩
  · intro p hp
    cases hp
  let Tp : Top K mg base := {
    f_plus := f0, d_plus := _, F_plus := F0, g_plus := PySem.W.mg_of X G a0, b_plus := b0,
    f_minus := f1, d_minus := _, F_minus := F1, g_minus := PySem.W.mg_of X G a1, b_minus := b1,
    f_compare := f2, d_compare := _, F_compare := F2, g_compare := PySem.W.mg_of X G a2, b_compare := b2,
    f_is_sized := f3, d_is_sized := _, F_is_sized := F3, g_is_sized := PySem.W.mg_of X G a3, b_is_sized := b3,
    f_check_axis := f4, d_check_axis := _, F_check_axis := F4, g_check_axis := PySem.W.mg_of X G a4, b_check_axis := b4,
    f_ends_of := f5, d_ends_of := _, F_ends_of := F5, g_ends_of := PySem.W.mg_of X G a5, b_ends_of := b5,
    tc_ends_overlap := tca_ends_overlap, tp_ends_overlap := tpa_ends_overlap, tb_ends_overlap := ⟨(hTB _ List.mem_cons_self).code, (hTB _ List.mem_cons_self).bm, (hTB _ List.mem_cons_self).gP⟩,
    f_ends_overlap := f6, d_ends_overlap := _, F_ends_overlap := F6, g_ends_overlap := PySem.W.mg_of X G a6, b_ends_overlap := b6,
    f_linked_sets := f7, d_linked_sets := _, F_linked_sets := F7, g_linked_sets := PySem.W.mg_of X G a7, b_linked_sets := b7,
    f_check_state := f8, d_check_state := _, F_check_state := F8, g_check_state := PySem.W.mg_of X G a8, b_check_state := b8,
    f_check_bodies := f9, d_check_bodies := _, F_check_bodies := F9, g_check_bodies := PySem.W.mg_of X G a9, b_check_bodies := b9,
    f_is_body_sound := f10, d_is_body_sound := _, F_is_body_sound := F10, g_is_body_sound := PySem.W.mg_of X G a10, b_is_body_sound := b10,
    f_check_overlaps := f11, d_check_overlaps := _, F_check_overlaps := F11, g_check_overlaps := PySem.W.mg_of X G a11, b_check_overlaps := b11,
    f_check_joint := f12, d_check_joint := _, F_check_joint := F12, g_check_joint := PySem.W.mg_of X G a12, b_check_joint := b12,
    f_joint_way := f13, d_joint_way := _, F_joint_way := F13, g_joint_way := PySem.W.mg_of X G a13, b_joint_way := b13,
    f_is_moving := f14, d_is_moving := _, F_is_moving := F14, g_is_moving := PySem.W.mg_of X G a14, b_is_moving := b14,
    f_are_moving_names := f15, d_are_moving_names := _, F_are_moving_names := F15, g_are_moving_names := PySem.W.mg_of X G a15, b_are_moving_names := b15,
    f_box_of_body := f16, d_box_of_body := _, F_box_of_body := F16, g_box_of_body := PySem.W.mg_of X G a16, b_box_of_body := b16,
    f_places_of := f17, d_places_of := _, F_places_of := F17, g_places_of := PySem.W.mg_of X G a17, b_places_of := b17,
    f_limbs := f18, d_limbs := _, F_limbs := F18, g_limbs := PySem.W.mg_of X G a18, b_limbs := b18,
    f_play := f19, d_play := _, F_play := F19, g_play := PySem.W.mg_of X G a19, b_play := b19,
    f_bounds_of := f20, d_bounds_of := _, F_bounds_of := F20, g_bounds_of := PySem.W.mg_of X G a20, b_bounds_of := b20,
    f_most_from := f21, d_most_from := _, F_most_from := F21, g_most_from := PySem.W.mg_of X G a21, b_most_from := b21,
    f_posed := f22, d_posed := _, F_posed := F22, g_posed := PySem.W.mg_of X G a22, b_posed := b22,
    f_law_begin := f23, d_law_begin := _, F_law_begin := F23, g_law_begin := PySem.W.mg_of X G a23, b_law_begin := b23,
    f_law_take := f24, d_law_take := _, F_law_take := F24, g_law_take := PySem.W.mg_of X G a24, b_law_take := b24,
    f_law_signed := f25, d_law_signed := _, F_law_signed := F25, g_law_signed := PySem.W.mg_of X G a25, b_law_signed := b25,
    f_law_gcd := f26, d_law_gcd := _, F_law_gcd := F26, g_law_gcd := PySem.W.mg_of X G a26, b_law_gcd := b26,
    f_law_f := f27, d_law_f := _, F_law_f := F27, g_law_f := PySem.W.mg_of X G a27, b_law_f := b27,
    f_law_plus := f28, d_law_plus := _, F_law_plus := F28, g_law_plus := PySem.W.mg_of X G a28, b_law_plus := b28,
    f_law_minus := f29, d_law_minus := _, F_law_minus := F29, g_law_minus := PySem.W.mg_of X G a29, b_law_minus := b29,
    f_law_less := f30, d_law_less := _, F_law_less := F30, g_law_less := PySem.W.mg_of X G a30, b_law_less := b30,
    f_law_max := f31, d_law_max := _, F_law_max := F31, g_law_max := PySem.W.mg_of X G a31, b_law_max := b31,
    f_law_part := f32, d_law_part := _, F_law_part := F32, g_law_part := PySem.W.mg_of X G a32, b_law_part := b32,
    f_law_vector := f33, d_law_vector := _, F_law_vector := F33, g_law_vector := PySem.W.mg_of X G a33, b_law_vector := b33,
    f_law_high := f34, d_law_high := _, F_law_high := F34, g_law_high := PySem.W.mg_of X G a34, b_law_high := b34,
    f_law_gap := f35, d_law_gap := _, F_law_gap := F35, g_law_gap := PySem.W.mg_of X G a35, b_law_gap := b35,
    f_law_over := f36, d_law_over := _, F_law_over := F36, g_law_over := PySem.W.mg_of X G a36, b_law_over := b36,
    f_law_size := f37, d_law_size := _, F_law_size := F37, g_law_size := PySem.W.mg_of X G a37, b_law_size := b37,
    f_law_beside := f38, d_law_beside := _, F_law_beside := F38, g_law_beside := PySem.W.mg_of X G a38, b_law_beside := b38,
    f_law_box := f39, d_law_box := _, F_law_box := F39, g_law_box := PySem.W.mg_of X G a39, b_law_box := b39,
    f_law_bodies := f40, d_law_bodies := _, F_law_bodies := F40, g_law_bodies := PySem.W.mg_of X G a40, b_law_bodies := b40,
    f_law_joints := f41, d_law_joints := _, F_law_joints := F41, g_law_joints := PySem.W.mg_of X G a41, b_law_joints := b41,
    f_law_class := f42, d_law_class := _, F_law_class := F42, g_law_class := PySem.W.mg_of X G a42, b_law_class := b42,
    f_law_told := f43, d_law_told := _, F_law_told := F43, g_law_told := PySem.W.mg_of X G a43, b_law_told := b43,
    f_law_can := f44, d_law_can := _, F_law_can := F44, g_law_can := PySem.W.mg_of X G a44, b_law_can := b44,
    f_law_ends := f45, d_law_ends := _, F_law_ends := F45, g_law_ends := PySem.W.mg_of X G a45, b_law_ends := b45,
    f_law_groups := f46, d_law_groups := _, F_law_groups := F46, g_law_groups := PySem.W.mg_of X G a46, b_law_groups := b46,
    f_law_posed := f47, d_law_posed := _, F_law_posed := F47, g_law_posed := PySem.W.mg_of X G a47, b_law_posed := b47,
    f_law := f48, d_law := _, F_law := F48, g_law := PySem.W.mg_of X G a48, b_law := b48,
    k_ZERO := kk_ZERO, gk_ZERO := PySem.W.mg_of X G ka_ZERO, dk_ZERO := const_t kl_ZERO rfl rfl (show 2 ≤ 100 by decide) (.cons ⟨_, rfl⟩ (.cons ⟨_, rfl⟩ .nil)),
    t_BODY_LIMIT := kt_BODY_LIMIT, gk_BODY_LIMIT := PySem.W.mg_of X G ka_BODY_LIMIT,
    t_JOINT_LIMIT := kt_JOINT_LIMIT, gk_JOINT_LIMIT := PySem.W.mg_of X G ka_JOINT_LIMIT,
    t_MASS_LIMIT := kt_MASS_LIMIT, gk_MASS_LIMIT := PySem.W.mg_of X G ka_MASS_LIMIT,
    t_NAME_LIMIT := kt_NAME_LIMIT, gk_NAME_LIMIT := PySem.W.mg_of X G ka_NAME_LIMIT,
    k_GRIP_LIMIT := kk_GRIP_LIMIT, gk_GRIP_LIMIT := PySem.W.mg_of X G ka_GRIP_LIMIT, dk_GRIP_LIMIT := const_t kl_GRIP_LIMIT rfl rfl (show 2 ≤ 100 by decide) (.cons ⟨_, rfl⟩ (.cons ⟨_, rfl⟩ .nil)),
    k_STANDING := kk_STANDING, gk_STANDING := PySem.W.mg_of X G ka_STANDING, dk_STANDING := fun G => .tup (const_t (xs := [V.ref kk_STANDING_0, V.ref kk_STANDING_1]) kl_STANDING rfl rfl (show 2 ≤ 100 by decide) (.cons rfl (.cons rfl .nil)) G) (.cons (.tup (const_t (xs := [V.int (0), V.int (1)]) kl_STANDING_0 rfl rfl (show 2 ≤ 100 by decide) (.cons ⟨_, rfl⟩ (.cons ⟨_, rfl⟩ .nil)) G) (.cons (.int (0)) (.cons (.int (1)) .nil))) (.cons (.tup (const_t (xs := [V.int (0), V.int (1)]) kl_STANDING_1 rfl rfl (show 2 ≤ 100 by decide) (.cons ⟨_, rfl⟩ (.cons ⟨_, rfl⟩ .nil)) G) (.cons (.int (0)) (.cons (.int (1)) .nil))) .nil)),
    c_SteadyError := xx_SteadyError, gc_SteadyError := PySem.W.mg_of X G ea_SteadyError, xc_SteadyError := ex_SteadyError, kc_SteadyError := ek_SteadyError, bc_SteadyError := eb_SteadyError, tc_SteadyError := et_SteadyError, hc_SteadyError := eh_SteadyError,
    c_AxisError := xx_AxisError, gc_AxisError := PySem.W.mg_of X G ea_AxisError, xc_AxisError := ex_AxisError, kc_AxisError := ek_AxisError, bc_AxisError := eb_AxisError, tc_AxisError := et_AxisError, hc_AxisError := eh_AxisError,
    c_IdError := xx_IdError, gc_IdError := PySem.W.mg_of X G ea_IdError, xc_IdError := ex_IdError, kc_IdError := ek_IdError, bc_IdError := eb_IdError, tc_IdError := et_IdError, hc_IdError := eh_IdError,
    c_TooLarge := xx_TooLarge, gc_TooLarge := PySem.W.mg_of X G ea_TooLarge, xc_TooLarge := ex_TooLarge, kc_TooLarge := ek_TooLarge, bc_TooLarge := eb_TooLarge, tc_TooLarge := et_TooLarge, hc_TooLarge := eh_TooLarge,
    c_BodyError := xx_BodyError, gc_BodyError := PySem.W.mg_of X G ea_BodyError, xc_BodyError := ex_BodyError, kc_BodyError := ek_BodyError, bc_BodyError := eb_BodyError, tc_BodyError := et_BodyError, hc_BodyError := eh_BodyError,
    c_OverlapError := xx_OverlapError, gc_OverlapError := PySem.W.mg_of X G ea_OverlapError, xc_OverlapError := ex_OverlapError, kc_OverlapError := ek_OverlapError, bc_OverlapError := eb_OverlapError, tc_OverlapError := et_OverlapError, hc_OverlapError := eh_OverlapError,
    c_JointError := xx_JointError, gc_JointError := PySem.W.mg_of X G ea_JointError, xc_JointError := ex_JointError, kc_JointError := ek_JointError, bc_JointError := eb_JointError, tc_JointError := et_JointError, hc_JointError := eh_JointError,
    ac_SteadyError_SteadyError := es_SteadyError_SteadyError,
    ac_AxisError_AxisError := es_AxisError_AxisError,
    ac_AxisError_SteadyError := es_AxisError_SteadyError,
    ac_IdError_IdError := es_IdError_IdError,
    ac_IdError_SteadyError := es_IdError_SteadyError,
    ac_TooLarge_TooLarge := es_TooLarge_TooLarge,
    ac_TooLarge_SteadyError := es_TooLarge_SteadyError,
    ac_BodyError_BodyError := es_BodyError_BodyError,
    ac_BodyError_SteadyError := es_BodyError_SteadyError,
    ac_OverlapError_OverlapError := es_OverlapError_OverlapError,
    ac_OverlapError_SteadyError := es_OverlapError_SteadyError,
    ac_JointError_JointError := es_JointError_JointError,
    ac_JointError_SteadyError := es_JointError_SteadyError,
    no_AxisError_IdError := eo_AxisError_IdError,
    no_AxisError_OverlapError := eo_AxisError_OverlapError,
    no_AxisError_JointError := eo_AxisError_JointError,
    no_IdError_AxisError := eo_IdError_AxisError,
    no_IdError_OverlapError := eo_IdError_OverlapError,
    no_IdError_JointError := eo_IdError_JointError,
    no_TooLarge_AxisError := eo_TooLarge_AxisError,
    no_TooLarge_IdError := eo_TooLarge_IdError,
    no_TooLarge_OverlapError := eo_TooLarge_OverlapError,
    no_TooLarge_JointError := eo_TooLarge_JointError,
    no_BodyError_AxisError := eo_BodyError_AxisError,
    no_BodyError_IdError := eo_BodyError_IdError,
    no_BodyError_OverlapError := eo_BodyError_OverlapError,
    no_BodyError_JointError := eo_BodyError_JointError,
    no_OverlapError_AxisError := eo_OverlapError_AxisError,
    no_OverlapError_IdError := eo_OverlapError_IdError,
    no_OverlapError_JointError := eo_OverlapError_JointError,
    no_JointError_AxisError := eo_JointError_AxisError,
    no_JointError_IdError := eo_JointError_IdError,
    no_JointError_OverlapError := eo_JointError_OverlapError,
    E_AxisError := ⟨ei1_AxisError, ei2_AxisError, eb_AxisError, eh_AxisError, ei3_AxisError, ei4_AxisError, ei5_AxisError, ei6_AxisError⟩,
    E_IdError := ⟨ei1_IdError, ei2_IdError, eb_IdError, eh_IdError, ei3_IdError, ei4_IdError, ei5_IdError, ei6_IdError⟩,
    E_TooLarge := ⟨ei1_TooLarge, ei2_TooLarge, eb_TooLarge, eh_TooLarge, ei3_TooLarge, ei4_TooLarge, ei5_TooLarge, ei6_TooLarge⟩,
    E_BodyError := ⟨ei1_BodyError, ei2_BodyError, eb_BodyError, eh_BodyError, ei3_BodyError, ei4_BodyError, ei5_BodyError, ei6_BodyError⟩,
    E_OverlapError := ⟨ei1_OverlapError, ei2_OverlapError, eb_OverlapError, eh_OverlapError, ei3_OverlapError, ei4_OverlapError, ei5_OverlapError, ei6_OverlapError⟩,
    E_JointError := ⟨ei1_JointError, ei2_JointError, eb_JointError, eh_JointError, ei3_JointError, ei4_JointError, ei5_JointError, ei6_JointError⟩,
    n_abs := PySem.W.mg_none_of X G z_abs, n_all := PySem.W.mg_none_of X G z_all, n_any := PySem.W.mg_none_of X G z_any, n_dict := PySem.W.mg_none_of X G z_dict, n_enumerate := PySem.W.mg_none_of X G z_enumerate, n_int := PySem.W.mg_none_of X G z_int, n_isinstance := PySem.W.mg_none_of X G z_isinstance, n_len := PySem.W.mg_none_of X G z_len, n_list := PySem.W.mg_none_of X G z_list, n_min := PySem.W.mg_none_of X G z_min, n_range := PySem.W.mg_none_of X G z_range, n_set := PySem.W.mg_none_of X G z_set, n_sorted := PySem.W.mg_none_of X G z_sorted, n_tuple := PySem.W.mg_none_of X G z_tuple, n_zip := PySem.W.mg_none_of X G z_zip, n_gcd := PySem.W.mg_of X G z_gcd }
  rw [e]
  exact fok_law (P := PySem.Challenge.rw_steadybodies_k43_limbs_and_their_play.prog) (w := w) (base := base) Tp
end W
open PySem PySem.W PyProof.Rows
set_option maxHeartbeats 0 in
theorem PySem.Challenge.cw_steadybodies_k43_limbs_and_their_play_holds : PySem.Challenge.rw_steadybodies_k43_limbs_and_their_play.Holds := by
  w_on; o_law; k_head; (case hw => w_witness2)
  k_fill
  letI : PL.Nm := ⟨fun _ => ""⟩
  refine PL.walk_ofG (l := PySem.Challenge.rw_steadybodies_k43_limbs_and_their_play) (n := 63) (k := 8) (x := "script") (CX := fun _ => L2.CX0) rfl (by decide) rfl ⟨rfl, by decide, by decide⟩ (fun w h Y => PySem.W.kIn_of Y) ?F (fun _ _ _ _ _ h => h)
  case F =>
    intro w mg fa h KX G hmg htab
    refine' W.all_mk KX G hmg htab ?a0 ?l0 ?c0 ?k0 ?a1 ?l1 ?c1 ?k1 ?a2 ?l2 ?c2 ?k2 ?a3 ?l3 ?c3 ?k3 ?a4 ?l4 ?c4 ?k4 ?a5 ?l5 ?c5 ?k5 ?a6 ?l6 ?c6 ?k6 ?a7 ?l7 ?c7 ?k7 ?a8 ?l8 ?c8 ?k8 ?a9 ?l9 ?c9 ?k9 ?a10 ?l10 ?c10 ?k10 ?a11 ?l11 ?c11 ?k11 ?a12 ?l12 ?c12 ?k12 ?a13 ?l13 ?c13 ?k13 ?a14 ?l14 ?c14 ?k14 ?a15 ?l15 ?c15 ?k15 ?a16 ?l16 ?c16 ?k16 ?a17 ?l17 ?c17 ?k17 ?a18 ?l18 ?c18 ?k18 ?a19 ?l19 ?c19 ?k19 ?a20 ?l20 ?c20 ?k20 ?a21 ?l21 ?c21 ?k21 ?a22 ?l22 ?c22 ?k22 ?a23 ?l23 ?c23 ?k23 ?a24 ?l24 ?c24 ?k24 ?a25 ?l25 ?c25 ?k25 ?a26 ?l26 ?c26 ?k26 ?a27 ?l27 ?c27 ?k27 ?a28 ?l28 ?c28 ?k28 ?a29 ?l29 ?c29 ?k29 ?a30 ?l30 ?c30 ?k30 ?a31 ?l31 ?c31 ?k31 ?a32 ?l32 ?c32 ?k32 ?a33 ?l33 ?c33 ?k33 ?a34 ?l34 ?c34 ?k34 ?a35 ?l35 ?c35 ?k35 ?a36 ?l36 ?c36 ?k36 ?a37 ?l37 ?c37 ?k37 ?a38 ?l38 ?c38 ?k38 ?a39 ?l39 ?c39 ?k39 ?a40 ?l40 ?c40 ?k40 ?a41 ?l41 ?c41 ?k41 ?a42 ?l42 ?c42 ?k42 ?a43 ?l43 ?c43 ?k43 ?a44 ?l44 ?c44 ?k44 ?a45 ?l45 ?c45 ?k45 ?a46 ?l46 ?c46 ?k46 ?a47 ?l47 ?c47 ?k47 ?a48 ?l48 ?c48 ?k48 ?ce_ends_overlap ?u_ends_overlap ?uw_ends_overlap ?tn_ends_overlap ?tr_ends_overlap ?ka_ZERO ?kl_ZERO ?ka_BODY_LIMIT ?ka_JOINT_LIMIT ?ka_MASS_LIMIT ?ka_NAME_LIMIT ?ka_GRIP_LIMIT ?kl_GRIP_LIMIT ?ka_STANDING ?kl_STANDING ?kl_STANDING_0 ?kl_STANDING_1 ?ea_SteadyError ?ex_SteadyError ?ek_SteadyError ?eb_SteadyError ?et_SteadyError ?eh_SteadyError ?ea_AxisError ?ex_AxisError ?ek_AxisError ?eb_AxisError ?et_AxisError ?eh_AxisError ?ea_IdError ?ex_IdError ?ek_IdError ?eb_IdError ?et_IdError ?eh_IdError ?ea_TooLarge ?ex_TooLarge ?ek_TooLarge ?eb_TooLarge ?et_TooLarge ?eh_TooLarge ?ea_BodyError ?ex_BodyError ?ek_BodyError ?eb_BodyError ?et_BodyError ?eh_BodyError ?ea_OverlapError ?ex_OverlapError ?ek_OverlapError ?eb_OverlapError ?et_OverlapError ?eh_OverlapError ?ea_JointError ?ex_JointError ?ek_JointError ?eb_JointError ?et_JointError ?eh_JointError ?es_SteadyError_SteadyError ?es_AxisError_AxisError ?es_AxisError_SteadyError ?es_IdError_IdError ?es_IdError_SteadyError ?es_TooLarge_TooLarge ?es_TooLarge_SteadyError ?es_BodyError_BodyError ?es_BodyError_SteadyError ?es_OverlapError_OverlapError ?es_OverlapError_SteadyError ?es_JointError_JointError ?es_JointError_SteadyError ?eo_AxisError_IdError ?eo_AxisError_OverlapError ?eo_AxisError_JointError ?eo_IdError_AxisError ?eo_IdError_OverlapError ?eo_IdError_JointError ?eo_TooLarge_AxisError ?eo_TooLarge_IdError ?eo_TooLarge_OverlapError ?eo_TooLarge_JointError ?eo_BodyError_AxisError ?eo_BodyError_IdError ?eo_BodyError_OverlapError ?eo_BodyError_JointError ?eo_OverlapError_AxisError ?eo_OverlapError_IdError ?eo_OverlapError_JointError ?eo_JointError_AxisError ?eo_JointError_IdError ?eo_JointError_OverlapError ?ei1_AxisError ?ei2_AxisError ?ei3_AxisError ?ei4_AxisError ?ei5_AxisError ?ei6_AxisError ?ei1_IdError ?ei2_IdError ?ei3_IdError ?ei4_IdError ?ei5_IdError ?ei6_IdError ?ei1_TooLarge ?ei2_TooLarge ?ei3_TooLarge ?ei4_TooLarge ?ei5_TooLarge ?ei6_TooLarge ?ei1_BodyError ?ei2_BodyError ?ei3_BodyError ?ei4_BodyError ?ei5_BodyError ?ei6_BodyError ?ei1_OverlapError ?ei2_OverlapError ?ei3_OverlapError ?ei4_OverlapError ?ei5_OverlapError ?ei6_OverlapError ?ei1_JointError ?ei2_JointError ?ei3_JointError ?ei4_JointError ?ei5_JointError ?ei6_JointError ?z_abs ?z_all ?z_any ?z_dict ?z_enumerate ?z_int ?z_isinstance ?z_len ?z_list ?z_min ?z_range ?z_set ?z_sorted ?z_tuple ?z_zip ?z_gcd
    (case a0 => k_is); (case l0 => k_is); (case c0 => k_is); (case k0 => k_is); (case a1 => k_is); (case l1 => k_is); (case c1 => k_is); (case k1 => k_is); (case a2 => k_is); (case l2 => k_is); (case c2 => k_is); (case k2 => k_is); (case a3 => k_is); (case l3 => k_is); (case c3 => k_is); (case k3 => k_is); (case a4 => k_is); (case l4 => k_is); (case c4 => k_is); (case k4 => k_is); (case a5 => k_is); (case l5 => k_is); (case c5 => k_is); (case k5 => k_is); (case a6 => k_is); (case l6 => k_is); (case c6 => k_is); (case k6 => k_is); (case a7 => k_is); (case l7 => k_is); (case c7 => k_is); (case k7 => k_is); (case a8 => k_is); (case l8 => k_is); (case c8 => k_is); (case k8 => k_is); (case a9 => k_is); (case l9 => k_is); (case c9 => k_is); (case k9 => k_is); (case a10 => k_is); (case l10 => k_is); (case c10 => k_is); (case k10 => k_is); (case a11 => k_is); (case l11 => k_is); (case c11 => k_is); (case k11 => k_is); (case a12 => k_is); (case l12 => k_is); (case c12 => k_is); (case k12 => k_is); (case a13 => k_is); (case l13 => k_is); (case c13 => k_is); (case k13 => k_is); (case a14 => k_is); (case l14 => k_is); (case c14 => k_is); (case k14 => k_is); (case a15 => k_is); (case l15 => k_is); (case c15 => k_is); (case k15 => k_is); (case a16 => k_is); (case l16 => k_is); (case c16 => k_is); (case k16 => k_is); (case a17 => k_is); (case l17 => k_is); (case c17 => k_is); (case k17 => k_is); (case a18 => k_is); (case l18 => k_is); (case c18 => k_is); (case k18 => k_is); (case a19 => k_is); (case l19 => k_is); (case c19 => k_is); (case k19 => k_is); (case a20 => k_is); (case l20 => k_is); (case c20 => k_is); (case k20 => k_is); (case a21 => k_is); (case l21 => k_is); (case c21 => k_is); (case k21 => k_is); (case a22 => k_is); (case l22 => k_is); (case c22 => k_is); (case k22 => k_is); (case a23 => k_is); (case l23 => k_is); (case c23 => k_is); (case k23 => k_is); (case a24 => k_is); (case l24 => k_is); (case c24 => k_is); (case k24 => k_is); (case a25 => k_is); (case l25 => k_is); (case c25 => k_is); (case k25 => k_is); (case a26 => k_is); (case l26 => k_is); (case c26 => k_is); (case k26 => k_is); (case a27 => k_is); (case l27 => k_is); (case c27 => k_is); (case k27 => k_is); (case a28 => k_is); (case l28 => k_is); (case c28 => k_is); (case k28 => k_is); (case a29 => k_is); (case l29 => k_is); (case c29 => k_is); (case k29 => k_is); (case a30 => k_is); (case l30 => k_is); (case c30 => k_is); (case k30 => k_is); (case a31 => k_is); (case l31 => k_is); (case c31 => k_is); (case k31 => k_is); (case a32 => k_is); (case l32 => k_is); (case c32 => k_is); (case k32 => k_is); (case a33 => k_is); (case l33 => k_is); (case c33 => k_is); (case k33 => k_is); (case a34 => k_is); (case l34 => k_is); (case c34 => k_is); (case k34 => k_is); (case a35 => k_is); (case l35 => k_is); (case c35 => k_is); (case k35 => k_is); (case a36 => k_is); (case l36 => k_is); (case c36 => k_is); (case k36 => k_is); (case a37 => k_is); (case l37 => k_is); (case c37 => k_is); (case k37 => k_is); (case a38 => k_is); (case l38 => k_is); (case c38 => k_is); (case k38 => k_is); (case a39 => k_is); (case l39 => k_is); (case c39 => k_is); (case k39 => k_is); (case a40 => k_is); (case l40 => k_is); (case c40 => k_is); (case k40 => k_is); (case a41 => k_is); (case l41 => k_is); (case c41 => k_is); (case k41 => k_is); (case a42 => k_is); (case l42 => k_is); (case c42 => k_is); (case k42 => k_is); (case a43 => k_is); (case l43 => k_is); (case c43 => k_is); (case k43 => k_is); (case a44 => k_is); (case l44 => k_is); (case c44 => k_is); (case k44 => k_is); (case a45 => k_is); (case l45 => k_is); (case c45 => k_is); (case k45 => k_is); (case a46 => k_is); (case l46 => k_is); (case c46 => k_is); (case k46 => k_is); (case a47 => k_is); (case l47 => k_is); (case c47 => k_is); (case k47 => k_is); (case a48 => k_is); (case l48 => k_is); (case c48 => k_is); (case k48 => k_is); (case ce_ends_overlap => rfl); (case u_ends_overlap => k_is); (case uw_ends_overlap => rfl); (case tn_ends_overlap => kernel_rfl); (case tr_ends_overlap => decide +kernel); (case ka_ZERO => k_is); (case kl_ZERO => k_is); (case ka_BODY_LIMIT => k_is); (case ka_JOINT_LIMIT => k_is); (case ka_MASS_LIMIT => k_is); (case ka_NAME_LIMIT => k_is); (case ka_GRIP_LIMIT => k_is); (case kl_GRIP_LIMIT => k_is); (case ka_STANDING => k_is); (case kl_STANDING => k_is); (case kl_STANDING_0 => k_is); (case kl_STANDING_1 => k_is); (case ea_SteadyError => k_is); (case ex_SteadyError => k_exc); (case ek_SteadyError => k_is); (case eb_SteadyError => k_is); (case et_SteadyError => k_is); (case eh_SteadyError => k_is); (case ea_AxisError => k_is); (case ex_AxisError => k_exc); (case ek_AxisError => k_is); (case eb_AxisError => k_is); (case et_AxisError => k_is); (case eh_AxisError => k_is); (case ea_IdError => k_is); (case ex_IdError => k_exc); (case ek_IdError => k_is); (case eb_IdError => k_is); (case et_IdError => k_is); (case eh_IdError => k_is); (case ea_TooLarge => k_is); (case ex_TooLarge => k_exc); (case ek_TooLarge => k_is); (case eb_TooLarge => k_is); (case et_TooLarge => k_is); (case eh_TooLarge => k_is); (case ea_BodyError => k_is); (case ex_BodyError => k_exc); (case ek_BodyError => k_is); (case eb_BodyError => k_is); (case et_BodyError => k_is); (case eh_BodyError => k_is); (case ea_OverlapError => k_is); (case ex_OverlapError => k_exc); (case ek_OverlapError => k_is); (case eb_OverlapError => k_is); (case et_OverlapError => k_is); (case eh_OverlapError => k_is); (case ea_JointError => k_is); (case ex_JointError => k_exc); (case ek_JointError => k_is); (case eb_JointError => k_is); (case et_JointError => k_is); (case eh_JointError => k_is); (case es_SteadyError_SteadyError => k_is); (case es_AxisError_AxisError => k_is); (case es_AxisError_SteadyError => k_is); (case es_IdError_IdError => k_is); (case es_IdError_SteadyError => k_is); (case es_TooLarge_TooLarge => k_is); (case es_TooLarge_SteadyError => k_is); (case es_BodyError_BodyError => k_is); (case es_BodyError_SteadyError => k_is); (case es_OverlapError_OverlapError => k_is); (case es_OverlapError_SteadyError => k_is); (case es_JointError_JointError => k_is); (case es_JointError_SteadyError => k_is); (case eo_AxisError_IdError => k_is); (case eo_AxisError_OverlapError => k_is); (case eo_AxisError_JointError => k_is); (case eo_IdError_AxisError => k_is); (case eo_IdError_OverlapError => k_is); (case eo_IdError_JointError => k_is); (case eo_TooLarge_AxisError => k_is); (case eo_TooLarge_IdError => k_is); (case eo_TooLarge_OverlapError => k_is); (case eo_TooLarge_JointError => k_is); (case eo_BodyError_AxisError => k_is); (case eo_BodyError_IdError => k_is); (case eo_BodyError_OverlapError => k_is); (case eo_BodyError_JointError => k_is); (case eo_OverlapError_AxisError => k_is); (case eo_OverlapError_IdError => k_is); (case eo_OverlapError_JointError => k_is); (case eo_JointError_AxisError => k_is); (case eo_JointError_IdError => k_is); (case eo_JointError_OverlapError => k_is); (case ei1_AxisError => k_is); (case ei2_AxisError => k_is); (case ei3_AxisError => k_is); (case ei4_AxisError => k_is); (case ei5_AxisError => k_is); (case ei6_AxisError => k_is); (case ei1_IdError => k_is); (case ei2_IdError => k_is); (case ei3_IdError => k_is); (case ei4_IdError => k_is); (case ei5_IdError => k_is); (case ei6_IdError => k_is); (case ei1_TooLarge => k_is); (case ei2_TooLarge => k_is); (case ei3_TooLarge => k_is); (case ei4_TooLarge => k_is); (case ei5_TooLarge => k_is); (case ei6_TooLarge => k_is); (case ei1_BodyError => k_is); (case ei2_BodyError => k_is); (case ei3_BodyError => k_is); (case ei4_BodyError => k_is); (case ei5_BodyError => k_is); (case ei6_BodyError => k_is); (case ei1_OverlapError => k_is); (case ei2_OverlapError => k_is); (case ei3_OverlapError => k_is); (case ei4_OverlapError => k_is); (case ei5_OverlapError => k_is); (case ei6_OverlapError => k_is); (case ei1_JointError => k_is); (case ei2_JointError => k_is); (case ei3_JointError => k_is); (case ei4_JointError => k_is); (case ei5_JointError => k_is); (case ei6_JointError => k_is); (case z_abs => k_is); (case z_all => k_is); (case z_any => k_is); (case z_dict => k_is); (case z_enumerate => k_is); (case z_int => k_is); (case z_isinstance => k_is); (case z_len => k_is); (case z_list => k_is); (case z_min => k_is); (case z_range => k_is); (case z_set => k_is); (case z_sorted => k_is); (case z_tuple => k_is); (case z_zip => k_is); (case z_gcd => k_is)
