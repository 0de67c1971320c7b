import PyProof.Rows.All
import Wide.All
import OpenK.AllK
import Wide.FinOn
import PySem.Challenge.RW_steadybodies_k05_times_of_overlap
import HandS.ForMost
import HandS.ForExc
import HandS.Wide
import HandS.Gcd
import HandS.IsInst
import HandS.ExcIs
import HandS.Deep
import HandS.Zip
import KE.GoesNew
set_option Elab.async false
set_option linter.all false
set_option maxRecDepth 100000
set_option maxHeartbeats 4000000
set_option exponentiation.threshold 10000
/-! A layer over the hand layer: big steps over data. -/
namespace PL
open PySem PySem.Spec PyProof.Rows L2

/-- a value as data, or the address of an object that may change -/
inductive Dat where
  | d (x : PyData)
  | r (a : Addr)
  | l (ds : List PyData)
  | k (kvs : List (Key × PyData))
abbrev Dat.i (n : Int) : Dat := .d (.int n)
abbrev Dat.b (b : Bool) : Dat := .d (.bool b)
abbrev Dat.t (xs : List PyData) : Dat := .d (.tuple xs)

/-- o stands where it stood; a code object's table may have grown -/
def Kpt (o : HO) (x : Option HO) : Prop := match o with
  | .tbl ps => ∃ qs : Array Value, x = some (.tbl qs) ∧ (TriplesOk ps.toList → TriplesOk qs.toList)
  | o => x = some o
theorem Kpt.of {o : HO} {x : Option HO} (h : x = some o) : Kpt o x := by
  cases o with
  | tbl ps => exact ⟨ps, h, id⟩
  | _ => exact h
theorem Kpt.some {o : HO} {x : Option HO} (h : Kpt o x) : ∃ u, x = some u ∧ ((∀ ps, o ≠ .tbl ps) → u = o) := by
  cases o with
  | tbl ps =>
    obtain ⟨qs, e, _⟩ := h
    exact ⟨_, e, fun z => (z ps rfl).elim⟩
  | _ => exact ⟨_, h, fun _ => rfl⟩
theorem Kpt.trans {o : HO} {x y : Option HO} (h : Kpt o x) (g : ∀ u, x = Option.some u → Kpt u y) : Kpt o y := by
  cases o with
  | tbl ps =>
    obtain ⟨qs, e, t⟩ := h
    obtain ⟨rs, e2, t2⟩ := g _ e
    exact ⟨rs, e2, fun z => t2 (t z)⟩
  | _ => exact g _ h
def Same (H H' : Hp) : Prop := ∀ b o, H b = some o → Kpt o (H' b)
theorem Same.refl (H : Hp) : Same H H := fun _ _ h => .of h
theorem Same.trans {H H1 H2 : Hp} (a : Same H H1) (b : Same H1 H2) : Same H H2 := fun c o h => (a c o h).trans fun u e => b c u e
theorem Same.free {H H' : Hp} (e : Same H H') {l : Addr} (h : H' l = none) : H l = none := by
  cases z : H l with
  | none => rfl
  | some o =>
    obtain ⟨u, hu, _⟩ := (e l o z).some
    rw [h] at hu
    cases hu
theorem Same.seq {K : PySem.W.Frag} {H H' : Hp} {a : Addr} {xs : List V} (e : Same H H') (h : SqL K H a xs) : SqL K H' a xs := by
  rcases h with (h | ⟨o, h⟩) | h
  · exact .inl (.inl (e _ _ h))
  · exact .inl (.inr ⟨o, e _ _ h⟩)
  · exact .inr h

section
variable {K : PySem.W.Frag} {G H G1 H1 G2 H2 H' : Hp}
theorem same_new {p : Addr} {o : HO} (h : H p = none) : Same H (upd H p o) := fun a u e => by
  rw [upd_ne (ne_of_none e h)]
  exact .of e
theorem same_t {a : Addr} {xs : List V} (e : Same H H') (h : SqT K H a xs) : SqT K H' a xs := by
  rcases h with (h | ⟨o, h⟩) | h
  · exact .inl (.inl (e _ _ h))
  · exact .inl (.inr ⟨o, e _ _ h⟩)
  · exact .inr h
mutual
theorem dp_mono (e : Same H H') : ∀ (d : PyData) (v : V), Dp K H v d → Dp K H' v d
  | .none, _, h => by cases h; exact .non
  | .bool b, _, h => by cases h; exact .bl b
  | .int i, _, h => by cases h; exact .int i
  | .str x, _, h => by cases h; exact .str x
  | .list ds, _, h => by
    cases h with
    | lst a b => exact .lst (e.seq a) (dp_monos e ds _ b)
  | .tuple ds, _, h => by
    cases h with
    | tup a b => exact .tup (same_t e a) (dp_monos e ds _ b)
  | .dict _, _, h => by cases h
theorem dp_monos (e : Same H H') : ∀ (ds : List PyData) (vs : List V), DpAll K H vs ds → DpAll K H' vs ds
  | [], _, h => by cases h; exact .nil
  | d :: ds, _, h => by
    cases h with
    | cons a b => exact .cons (dp_mono e d _ a) (dp_monos e ds _ b)
end
theorem dpa_get : ∀ {vs : List V} {ds : List PyData} {i : Nat} {d : PyData}, DpAll K G vs ds → ds[i]? = some d → ∃ v, vs[i]? = some v ∧ Dp K G v d
  | _, _, _, _, .nil, e => by simp at e
  | _, _, 0, _, .cons a _, e => by
    simp at e
    subst e
    exact ⟨_, rfl, a⟩
  | _, _, i + 1, d, .cons _ b, e => by
    obtain ⟨v, h1, h2⟩ := dpa_get (i := i) (d := d) b (by simpa using e)
    exact ⟨v, by simpa using h1, h2⟩
theorem dpa_len : ∀ {vs : List V} {ds : List PyData}, DpAll K G vs ds → vs.length = ds.length
  | _, _, .nil => rfl
  | _, _, .cons _ b => by
    rw [List.length_cons, List.length_cons, dpa_len b]
theorem dpa_ints : ∀ (ns : List Int), DpAll K G (ns.map V.int) (ns.map PyData.int)
  | [] => .nil
  | n :: ns => .cons (.int n) (dpa_ints ns)
theorem dpa_app : ∀ {vs ws : List V} {ds es : List PyData}, DpAll K G vs ds → DpAll K G ws es → DpAll K G (vs ++ ws) (ds ++ es)
  | _, _, _, _, .nil, h => h
  | _, _, _, _, .cons a b, h => .cons a (dpa_app b h)

/-- a dict's items as data -/
def KvAll (K : PySem.W.Frag) (G : Hp) (vs : List (Key × V)) (kvs : List (Key × PyData)) : Prop := vs.map (·.1) = kvs.map (·.1) ∧ DpAll K G (vs.map (·.2)) (kvs.map (·.2))
def Dv (K : PySem.W.Frag) (G : Hp) (v : V) : Dat → Prop
  | .d x => Dp K G v x
  | .r a => v = .ref a
  | .l ds => ∃ a vs, v = .ref a ∧ G a = some (.lst vs) ∧ DpAll K G vs ds
  | .k kvs => ∃ a vs, v = .ref a ∧ G a = some (.dK vs) ∧ KvAll K G vs kvs
theorem dv_mono {v : V} {d : Dat} (e : Same H H') (h : Dv K H v d) : Dv K H' v d := by
  cases d with
  | d x => exact dp_mono e x v h
  | r a => exact h
  | l ds =>
    obtain ⟨a, vs, h1, h2, h3⟩ := h
    exact ⟨a, vs, h1, e _ _ h2, dp_monos e ds vs h3⟩
  | k kvs =>
    obtain ⟨a, vs, h1, h2, h3⟩ := h
    exact ⟨a, vs, h1, e _ _ h2, h3.1, dp_monos e _ _ h3.2⟩
def DvAll (K : PySem.W.Frag) (G : Hp) : List V → List Dat → Prop
  | [], [] => True
  | v :: vs, d :: ds => Dv K G v d ∧ DvAll K G vs ds
  | [], _ :: _ => False
  | _ :: _, [] => False
theorem dva_mono (e : Same H H') : ∀ {vs : List V} {ds : List Dat}, DvAll K H vs ds → DvAll K H' vs ds
  | [], [], _ => trivial
  | _ :: _, _ :: _, h => ⟨dv_mono e h.1, dva_mono e h.2⟩
  | [], _ :: _, h => h.elim
  | _ :: _, [], h => h.elim
theorem dva_len : ∀ {vs : List V} {ds : List Dat}, DvAll K H vs ds → vs.length = ds.length
  | [], [], _ => rfl
  | _ :: vs, _ :: ds, h => by
    rw [List.length_cons, List.length_cons, dva_len h.2]
  | [], _ :: _, h => h.elim
  | _ :: _, [], h => h.elim
theorem dva_dp : ∀ {vs : List V} {ds : List PyData}, DvAll K H vs (ds.map Dat.d) → DpAll K H vs ds
  | [], [], _ => .nil
  | _ :: _, _ :: _, h => .cons h.1 (dva_dp h.2)
  | [], _ :: _, h => h.elim
  | _ :: _, [], h => h.elim
def SlD (K : PySem.W.Frag) (G : Hp) (s : Option V) : Option Dat → Prop
  | none => True
  | some d => ∃ v, s = some v ∧ Dv K G v d
theorem sld_mono {s : Option V} {o : Option Dat} (e : Same H H') (h : SlD K H s o) : SlD K H' s o := by
  cases o with
  | none => trivial
  | some d =>
    obtain ⟨v, h1, h2⟩ := h
    exact ⟨v, h1, dv_mono e h2⟩
abbrev Rho := List (Option Dat)
def EnvD (K : PySem.W.Frag) (G : Hp) : List (Option V) → Rho → Prop
  | [], [] => True
  | s :: σ, o :: ρ => SlD K G s o ∧ EnvD K G σ ρ
  | [], _ :: _ => False
  | _ :: _, [] => False
theorem env_mono (e : Same H H') : ∀ {σ : List (Option V)} {ρ : Rho}, EnvD K H σ ρ → EnvD K H' σ ρ
  | [], [], _ => trivial
  | _ :: _, _ :: _, h => ⟨sld_mono e h.1, env_mono e h.2⟩
  | [], _ :: _, h => h.elim
  | _ :: _, [], h => h.elim
theorem env_get : ∀ {σ : List (Option V)} {ρ : Rho} {i : Nat} {d : Dat}, EnvD K G σ ρ → ρ[i]? = some (some d) → ∃ v, σ[i]? = some (some v) ∧ Dv K G v d
  | [], [], _, _, _, e => by simp at e
  | _ :: _, _ :: _, 0, d, h, e => by
    simp at e
    subst e
    obtain ⟨v, h1, h2⟩ := h.1
    exact ⟨v, by simp [h1], h2⟩
  | _ :: σ, _ :: ρ, i + 1, d, h, e => by
    obtain ⟨v, h1, h2⟩ := env_get (i := i) (d := d) h.2 (by simpa using e)
    exact ⟨v, by simpa using h1, h2⟩
  | [], _ :: _, _, _, h, _ => h.elim
  | _ :: _, [], _, _, h, _ => h.elim
theorem env_set {v : V} {d : Dat} (hv : Dv K G v d) : ∀ {σ : List (Option V)} {ρ : Rho} {i : Nat}, EnvD K G σ ρ → EnvD K G (σ.set i (some v)) (ρ.set i (some d))
  | [], [], _, _ => trivial
  | _ :: _, _ :: _, 0, h => ⟨⟨v, rfl, hv⟩, h.2⟩
  | _ :: σ, _ :: ρ, i + 1, h => ⟨h.1, env_set hv (i := i) h.2⟩
  | [], _ :: _, _, h => h.elim
  | _ :: _, [], _, h => h.elim
/-- less is known -/
def Less : Rho → Rho → Prop
  | [], [] => True
  | a :: ρ, b :: ρ' => (b = none ∨ a = b) ∧ Less ρ ρ'
  | [], _ :: _ => False
  | _ :: _, [] => False
theorem env_less : ∀ {σ : List (Option V)} {ρ ρ' : Rho}, Less ρ ρ' → EnvD K G σ ρ → EnvD K G σ ρ'
  | [], [], [], _, _ => trivial
  | _ :: _, _ :: _, _ :: _, l, h => ⟨by
      rcases l.1 with e | e
      · rw [e]; trivial
      · rw [← e]; exact h.1, env_less l.2 h.2⟩
  | _, [], _ :: _, l, _ => l.elim
  | _, _ :: _, [], l, _ => l.elim
  | [], _ :: _, _, _, h => h.elim
  | _ :: _, [], _, _, h => h.elim
theorem env_nones : ∀ (n : Nat), EnvD K G (List.replicate n none) (List.replicate n none)
  | 0 => trivial
  | n + 1 => ⟨trivial, env_nones n⟩
theorem env_start : ∀ {vs : List V} {ds : List Dat} (n : Nat), DvAll K G vs ds → EnvD K G (vs.map some ++ List.replicate n none) (ds.map some ++ List.replicate n none)
  | [], [], n, _ => env_nones n
  | v :: _, _ :: _, n, h => ⟨⟨v, rfl, h.1⟩, env_start n h.2⟩
  | [], _ :: _, _, h => h.elim
  | _ :: _, [], _, h => h.elim

/-! ### steps of the heap; what is said of it -/
structure Stp (M : Addr → Prop) (G H G2 H2 : Hp) : Prop where
  gg : Same G G2
  gh : Same G2 H2
  hh : ∀ a o, ¬ M a → H a = some o → Kpt o (H2 a)
  fr : ∀ a o, ¬ M a → H a = some o → G a = none → G2 a = none
  ex : ∀ a o, H a = some o → ∃ u, H2 a = some u
abbrev NoA : Addr → Prop := fun _ => False
theorem Stp.refl {M : Addr → Prop} (h : Same G H) : Stp M G H G H := ⟨Same.refl _, h, fun _ _ _ e => .of e, fun _ _ _ _ e => e, fun _ o e => ⟨o, e⟩⟩
theorem Stp.trans {M : Addr → Prop} (a : Stp M G H G1 H1) (b : Stp M G1 H1 G2 H2) : Stp M G H G2 H2 :=
  ⟨a.gg.trans b.gg, b.gh, fun c o n e => (a.hh c o n e).trans fun u z => b.hh c u n z, fun c o m e n => by
    obtain ⟨u, hu⟩ := a.ex c o e
    exact b.fr c u m hu (a.fr c o m e n), fun c o e => by
    obtain ⟨u, hu⟩ := a.ex c o e
    exact b.ex c u hu⟩
theorem Stp.wide {M M' : Addr → Prop} (h : ∀ a, M a → M' a) (a : Stp M G H G2 H2) : Stp M' G H G2 H2 :=
  ⟨a.gg, a.gh, fun c o n e => a.hh c o (fun z => n (h c z)) e, fun c o n => a.fr c o (fun z => n (h c z)), a.ex⟩
/-- a new object that never changes -/
theorem Stp.new {p : Addr} {o : HO} (h : Same G H) (hp : H p = none) : Stp NoA G H (upd G p o) (upd H p o) := by
  have gp : G p = none := h.free hp
  refine ⟨same_new gp, fun a u e => ?_, fun a u _ e => ?_, fun a u _ e n => ?_, fun a u e => ?_⟩
  · by_cases z : a = p
    · subst z
      rw [upd_same] at e ⊢
      exact .of e
    · rw [upd_ne z] at e ⊢
      exact h a u e
  · rw [upd_ne (ne_of_none e hp)]
    exact .of e
  · rw [upd_ne (ne_of_none e hp)]
    exact n
  · exact ⟨u, by rw [upd_ne (ne_of_none e hp)]; exact e⟩
/-- a new object that may change -/
theorem Stp.newM {p : Addr} {o : HO} (h : Same G H) (hp : H p = none) : Stp NoA G H G (upd H p o) :=
  ⟨Same.refl _, h.trans (same_new hp), fun a u _ e => by rw [upd_ne (ne_of_none e hp)]; exact .of e, fun _ _ _ _ n => n, fun a u e => ⟨u, by rw [upd_ne (ne_of_none e hp)]; exact e⟩⟩
/-- a store -/
theorem Stp.store {p : Addr} {o u : HO} (h : Same G H) (gp : G p = none) (hp : H p = some u) : Stp (· = p) G H G (upd H p o) :=
  ⟨Same.refl _, fun a x e => by
    rw [upd_ne (ne_of_none e gp)]
    exact h a x e, fun a x n e => by
    rw [upd_ne n]
    exact .of e, fun _ _ _ _ n => n, fun a x e => by
    by_cases z : a = p
    · subst z
      exact ⟨o, upd_same⟩
    · exact ⟨x, by rw [upd_ne z]; exact e⟩⟩
/-- a table grows -/
theorem Stp.tab {p : Addr} {ps qs : Array Value} (h : Same G H) (hp : H p = some (.tbl ps)) (t : TriplesOk ps.toList → TriplesOk qs.toList) : Stp NoA G H G (upd H p (.tbl qs)) := by
  have k : ∀ a x, H a = some x → Kpt x (upd H p (.tbl qs) a) := fun a x e => by
    by_cases z : a = p
    · subst z
      rw [hp] at e
      cases e
      exact ⟨qs, upd_same, t⟩
    · rw [upd_ne z]
      exact .of e
  exact ⟨Same.refl _, fun a x e => (h a x e).trans fun u z => k a u z, fun a x _ e => k a x e, fun _ _ _ _ n => n, fun a x e => let ⟨u, z, _⟩ := (k a x e).some; ⟨u, z⟩⟩
/-- the tables at these places are known -/
def TabsIn (T : List Addr) (G : Hp) : Prop := ∀ p ∈ T, ∃ ps : Array Value, G p = some (.tbl ps) ∧ TriplesOk ps.toList
theorem TabsIn.mono {T : List Addr} (h : TabsIn T G) (e : Same G H) : TabsIn T H := fun p hp => by
  obtain ⟨ps, e1, t⟩ := h p hp
  obtain ⟨qs, e2, t2⟩ := e p _ e1
  exact ⟨qs, e2, t2 t⟩
structure Asn where
  foot : Addr → Prop
  ok : Hp → Hp → Prop
  st : ∀ (M : Addr → Prop) (G H G2 H2 : Hp), (∀ a, foot a → ¬ M a) → Stp M G H G2 H2 → ok G H → ok G2 H2
  own : ∀ (G H : Hp) (a : Addr), ok G H → foot a → ∃ o, H a = some o
theorem Asn.pure_st {I : Asn} (s : Stp NoA G H G2 H2) (h : I.ok G H) : I.ok G2 H2 := I.st NoA G H G2 H2 (fun _ _ z => z) s h
def Asn.tt : Asn := ⟨NoA, fun _ _ => True, fun _ _ _ _ _ _ _ _ => trivial, fun _ _ _ _ z => z.elim⟩
def Asn.and (I J : Asn) : Asn := ⟨fun a => I.foot a ∨ J.foot a, fun G H => I.ok G H ∧ J.ok G H, fun M G H G2 H2 n s h => ⟨I.st M G H G2 H2 (fun a z => n a (.inl z)) s h.1, J.st M G H G2 H2 (fun a z => n a (.inr z)) s h.2⟩, fun G H a h z => z.elim (I.own G H a h.1) (J.own G H a h.2)⟩
/-- all that was, but M's, stands as it stood -/
def Asn.since (M : Addr → Prop) (G0 H0 : Hp) : Asn := ⟨fun a => ¬ M a ∧ ∃ o, H0 a = some o, fun G H => Stp M G0 H0 G H, fun M' G H G2 H2 n s h =>
  ⟨h.gg.trans s.gg, s.gh, fun a o m e => (h.hh a o m e).trans fun u z => s.hh a u (n a ⟨m, o, e⟩) z, fun a o m e g => by
    obtain ⟨u, hu⟩ := h.ex a o e
    exact s.fr a u (n a ⟨m, o, e⟩) hu (h.fr a o m e g), fun a o e => by
    obtain ⟨u, hu⟩ := h.ex a o e
    exact s.ex a u hu⟩, fun G H a h ⟨_, o, e⟩ => h.ex a o e⟩

/-! ### judgements -/
def E (K : PySem.W.Frag) (te : TE) (ρ : Rho) (I : Asn) (d : Dat) (J : Asn) : Prop :=
  ∀ G H σ, Same G H → EnvD K G σ ρ → I.ok G H → ∀ Q : VK, (∀ v G2 H2, Same G G2 → Same G2 H2 → J.ok G2 H2 → Dv K G2 v d → Q v H2) → te σ H Q
def A (K : PySem.W.Frag) (ta : TA) (ρ : Rho) (I : Asn) (ds : List Dat) (J : Asn) : Prop :=
  ∀ G H σ, Same G H → EnvD K G σ ρ → I.ok G H → ∀ Q : List V → Hp → Prop, (∀ vs G2 H2, Same G G2 → Same G2 H2 → J.ok G2 H2 → DvAll K G2 vs ds → Q vs H2) → ta σ H Q
def T (K : PySem.W.Frag) (tt : TT) (ρ : Rho) (I : Asn) (b : Bool) (J : Asn) : Prop :=
  ∀ G H σ, Same G H → EnvD K G σ ρ → I.ok G H → ∀ Q : Bool → Hp → Prop, (∀ G2 H2, Same G G2 → Same G2 H2 → J.ok G2 H2 → Q b H2) → tt σ H Q
inductive Out where
  | nx (ρ : Rho) (J : Asn)
  | rt (d : Dat) (J : Asn)
  | bk (ρ : Rho) (J : Asn)
  | ct (ρ : Rho) (J : Asn)
  | fin (P : V → Hp → Hp → Prop)
  | ne (P : Rho → Asn → Prop)
def Fin (K : PySem.W.Frag) (D : Ends) (G : Hp) : Out → Prop
  | .nx ρ J => ∀ G2 H2 σ, Same G G2 → Same G2 H2 → EnvD K G2 σ ρ → J.ok G2 H2 → D.nx σ H2
  | .bk ρ J => ∀ G2 H2 σ, Same G G2 → Same G2 H2 → EnvD K G2 σ ρ → J.ok G2 H2 → D.bk σ H2
  | .ct ρ J => ∀ G2 H2 σ, Same G G2 → Same G2 H2 → EnvD K G2 σ ρ → J.ok G2 H2 → D.ct σ H2
  | .rt d J => ∀ v G2 H2, Same G G2 → Same G2 H2 → J.ok G2 H2 → Dv K G2 v d → D.rt v H2
  | .fin P => ∀ v G2 H2, Same G G2 → Same G2 H2 → P v G2 H2 → D.rt v H2
  | .ne P => ∀ ρ J, P ρ J → ∀ G2 H2 σ, Same G G2 → Same G2 H2 → EnvD K G2 σ ρ → J.ok G2 H2 → D.nx σ H2
theorem Fin.mono {D : Ends} {k : Out} (e : Same G G1) (h : Fin K D G k) : Fin K D G1 k := by
  cases k with
  | nx ρ J => exact fun G2 H2 σ a => h G2 H2 σ (e.trans a)
  | bk ρ J => exact fun G2 H2 σ a => h G2 H2 σ (e.trans a)
  | ct ρ J => exact fun G2 H2 σ a => h G2 H2 σ (e.trans a)
  | rt d J => exact fun v G2 H2 a => h v G2 H2 (e.trans a)
  | fin P => exact fun v G2 H2 a => h v G2 H2 (e.trans a)
  | ne P => exact fun ρ J p G2 H2 σ a => h ρ J p G2 H2 σ (e.trans a)
def S (K : PySem.W.Frag) (t : TS) (ρ : Rho) (I : Asn) (k : Out) : Prop :=
  ∀ G H σ (D : Ends), Same G H → EnvD K G σ ρ → I.ok G H → Fin K D G k → t D σ H
end

section
variable {K : PySem.W.Frag} {ρ ρ1 : Rho} {I J L N : Asn} {ta tb tc te : TE} {d e : Dat} {t u : TT} {b c : Bool}
/-! ### expressions -/
theorem e_var {i : Nat} (h : ρ[i]? = some (some d)) : E K (tVar i) ρ I d I := fun G H σ gh en io Q q => by
  obtain ⟨v, h1, h2⟩ := env_get en h
  exact ⟨v, h1, q v G H (Same.refl _) gh io h2⟩
theorem e_int {i : Int} : E K (tC (.int i)) ρ I (.i i) I := fun G H σ gh en io Q q => q _ G H (Same.refl _) gh io (.int i)
theorem e_bl {i : Bool} : E K (tC (.bl i)) ρ I (.b i) I := fun G H σ gh en io Q q => q _ G H (Same.refl _) gh io (.bl i)
theorem e_str {i : Str} : E K (tC (.str i)) ρ I (.d (.str i)) I := fun G H σ gh en io Q q => q _ G H (Same.refl _) gh io (.str i)
theorem e_non : E K (tC .non) ρ I (.d .none) I := fun G H σ gh en io Q q => q _ G H (Same.refl _) gh io .non
/-- a two-place operation on values -/
theorem e_op {r : R2} {f : Dat} (ha : E K ta ρ I d J) (hb : E K tb ρ J e L) (hr : ∀ G H x y, Same G H → L.ok G H → Dv K G x d → Dv K G y e → ∀ Q : VK, (∀ v G2 H2, Same G G2 → Same G2 H2 → N.ok G2 H2 → Dv K G2 v f → Q v H2) → r x y H Q) : E K (tOp r ta tb) ρ I f N :=
  fun G H σ gh en io Q q => ha G H σ gh en io _ fun x G1 H1 g1 gh1 j1 dx => hb G1 H1 σ gh1 (env_mono g1 en) j1 _ fun y G2 H2 g2 gh2 j2 dy =>
    hr G2 H2 x y gh2 j2 (dv_mono g2 dx) dy Q fun v G3 H3 g3 => q v G3 H3 ((g1.trans g2).trans g3)
theorem dv_int {G : Hp} {x : V} {i : Int} (h : Dv K G x (.i i)) : x = .int i := by
  cases h
  rfl
theorem dv_bl {G : Hp} {x : V} {i : Bool} (h : Dv K G x (.b i)) : x = .bl i := by
  cases h
  rfl
theorem dv_str {G : Hp} {x : V} {i : Str} (h : Dv K G x (.d (.str i))) : x = .str i := by
  cases h
  rfl
theorem e_I0 {f : Int → Int → Int} {i j : Int} (ha : E K ta ρ I (.i i) J) (hb : E K tb ρ J (.i j) L) : E K (tOp (rI0 fun i j => .int (f i j)) ta tb) ρ I (.i (f i j)) L :=
  e_op ha hb fun G H x y gh lo dx dy Q q => ⟨i, j, dv_int dx, dv_int dy, q _ G H (Same.refl _) gh lo (.int _)⟩
theorem e_I {C : Int → Int → Prop} {f : Int → Int → Int} {i j : Int} (ha : E K ta ρ I (.i i) J) (hb : E K tb ρ J (.i j) L) (hc : C i j) : E K (tOp (rI C fun i j => .int (f i j)) ta tb) ρ I (.i (f i j)) L :=
  e_op ha hb fun G H x y gh lo dx dy Q q => ⟨i, j, dv_int dx, dv_int dy, hc, q _ G H (Same.refl _) gh lo (.int _)⟩
theorem e_B0 {f : Int → Int → Bool} {i j : Int} (ha : E K ta ρ I (.i i) J) (hb : E K tb ρ J (.i j) L) : E K (tOp (rI0 fun i j => .bl (f i j)) ta tb) ρ I (.b (f i j)) L :=
  e_op ha hb fun G H x y gh lo dx dy Q q => ⟨i, j, dv_int dx, dv_int dy, q _ G H (Same.refl _) gh lo (.bl _)⟩
theorem e_add {i j : Int} (ha : E K ta ρ I (.i i) J) (hb : E K tb ρ J (.i j) L) : E K (tOp (rI0 fun i j => .int (i + j)) ta tb) ρ I (.i (i + j)) L := e_I0 (f := fun i j => i + j) ha hb
theorem e_sub {i j : Int} (ha : E K ta ρ I (.i i) J) (hb : E K tb ρ J (.i j) L) : E K (tOp (rI0 fun i j => .int (i - j)) ta tb) ρ I (.i (i - j)) L := e_I0 (f := fun i j => i - j) ha hb
theorem e_mul {i j : Int} (ha : E K ta ρ I (.i i) J) (hb : E K tb ρ J (.i j) L) (hc : CMulW i j) : E K (tOp (rI CMulW fun i j => .int (i * j)) ta tb) ρ I (.i (i * j)) L := e_I (f := fun i j => i * j) ha hb hc
theorem e_mul0 {i j : Int} (ha : E K ta ρ I (.i i) J) (hb : E K tb ρ J (.i j) L) (hc : CMul i j) : E K (tOp (rI CMul fun i j => .int (i * j)) ta tb) ρ I (.i (i * j)) L := e_I (f := fun i j => i * j) ha hb hc
theorem e_div {i j : Int} (ha : E K ta ρ I (.i i) J) (hb : E K tb ρ J (.i j) L) (hc : CDivW i j) : E K (tOp (rI CDivW fun i j => .int (i / j)) ta tb) ρ I (.i (i / j)) L := e_I (f := fun i j => i / j) ha hb hc
theorem e_mod {i j : Int} (ha : E K ta ρ I (.i i) J) (hb : E K tb ρ J (.i j) L) (hc : 0 < j) : E K (tOp (rI (fun _ j => 0 < j) fun i j => .int (i % j)) ta tb) ρ I (.i (i % j)) L := e_I (f := fun i j => i % j) ha hb hc
theorem e_pow {i j : Int} (ha : E K ta ρ I (.i i) J) (hb : E K tb ρ J (.i j) L) (hc : CPow i j) : E K (tOp (rI CPow fun i j => .int (i ^ j.toNat)) ta tb) ρ I (.i (i ^ j.toNat)) L := e_I (f := fun i j => i ^ j.toNat) ha hb hc
theorem e_lt {i j : Int} (ha : E K ta ρ I (.i i) J) (hb : E K tb ρ J (.i j) L) : E K (tOp (rI0 fun i j => .bl (decide (i < j))) ta tb) ρ I (.b (decide (i < j))) L := e_B0 (f := fun i j => decide (i < j)) ha hb
theorem e_le {i j : Int} (ha : E K ta ρ I (.i i) J) (hb : E K tb ρ J (.i j) L) : E K (tOp (rI0 fun i j => .bl (decide (i ≤ j))) ta tb) ρ I (.b (decide (i ≤ j))) L := e_B0 (f := fun i j => decide (i ≤ j)) ha hb
theorem e_gt {i j : Int} (ha : E K ta ρ I (.i i) J) (hb : E K tb ρ J (.i j) L) : E K (tOp (rI0 fun i j => .bl (decide (j < i))) ta tb) ρ I (.b (decide (j < i))) L := e_B0 (f := fun i j => decide (j < i)) ha hb
theorem e_ge {i j : Int} (ha : E K ta ρ I (.i i) J) (hb : E K tb ρ J (.i j) L) : E K (tOp (rI0 fun i j => .bl (decide (j ≤ i))) ta tb) ρ I (.b (decide (j ≤ i))) L := e_B0 (f := fun i j => decide (j ≤ i)) ha hb
theorem e_eqI {i j : Int} (ha : E K ta ρ I (.i i) J) (hb : E K tb ρ J (.i j) L) : E K (tOp rEq ta tb) ρ I (.b (decide (i = j))) L :=
  e_op ha hb fun G H x y gh lo dx dy Q q => by
    obtain rfl := dv_int dx
    obtain rfl := dv_int dy
    refine ⟨rfl, q _ G H (Same.refl _) gh lo ?_⟩
    have z : decide (V.int i = V.int j) = decide (i = j) := by
      by_cases h : i = j
      · subst h; simp
      · rw [decide_eq_false h, decide_eq_false (fun z => h (V.int.inj z))]
    rw [z]
    exact .bl _
theorem e_neI {i j : Int} (ha : E K ta ρ I (.i i) J) (hb : E K tb ρ J (.i j) L) : E K (tOp rNe ta tb) ρ I (.b (!decide (i = j))) L :=
  e_op ha hb fun G H x y gh lo dx dy Q q => by
    obtain rfl := dv_int dx
    obtain rfl := dv_int dy
    refine ⟨rfl, q _ G H (Same.refl _) gh lo ?_⟩
    have z : decide (V.int i = V.int j) = decide (i = j) := by
      by_cases h : i = j
      · subst h; simp
      · rw [decide_eq_false h, decide_eq_false (fun z => h (V.int.inj z))]
    rw [z]
    exact .bl _
theorem e_eqD {x y : PyData} (ha : E K ta ρ I (.d x) J) (hb : E K tb ρ J (.d y) L) (hx : SeqAt.shaped x = true) (hy : SeqAt.shaped y = true) : E K (tOp (rEqD K) ta tb) ρ I (.b (PyData.eqv x y)) L :=
  e_op ha hb fun G H a b gh lo dx dy Q q => ⟨x, y, dp_mono gh _ _ dx, dp_mono gh _ _ dy, hx, hy, q _ G H (Same.refl _) gh lo (.bl _)⟩
theorem e_neD {x y : PyData} (ha : E K ta ρ I (.d x) J) (hb : E K tb ρ J (.d y) L) (hx : SeqAt.shaped x = true) (hy : SeqAt.shaped y = true) : E K (tOp (rNeD K) ta tb) ρ I (.b (!PyData.eqv x y)) L :=
  e_op ha hb fun G H a b gh lo dx dy Q q => ⟨x, y, dp_mono gh _ _ dx, dp_mono gh _ _ dy, hx, hy, q _ G H (Same.refl _) gh lo (.bl _)⟩
theorem e_neg {i : Int} (ha : E K ta ρ I (.i i) J) : E K (tUn (rU fun i => .int (-i)) ta) ρ I (.i (-i)) J :=
  fun G H σ gh en io Q q => ha G H σ gh en io _ fun x G1 H1 g1 gh1 j1 dx => ⟨i, dv_int dx, q _ G1 H1 g1 gh1 j1 (.int _)⟩
/-- an item of a tuple -/
theorem e_ixT {ds : List PyData} {j : Nat} {x : PyData} (ha : E K ta ρ I (.t ds) J) (hb : E K tb ρ J (.i (j : Nat)) L) (h : ds[j]? = some x) : E K (tOp (rIxT K) ta tb) ρ I (.d x) L :=
  e_op ha hb fun G H a b gh lo dx dy Q q => by
    cases dx with
    | tup s r =>
      obtain rfl := dv_int dy
      obtain ⟨v, h1, h2⟩ := dpa_get r h
      exact ⟨_, _, _, v, rfl, rfl, same_t gh s, atI_nat h1, q v G H (Same.refl _) gh lo h2⟩
/-- an item of a list that never changes -/
theorem e_ixL {ds : List PyData} {j : Nat} {x : PyData} (ha : E K ta ρ I (.d (.list ds)) J) (hb : E K tb ρ J (.i (j : Nat)) L) (h : ds[j]? = some x) : E K (tOp (rIxL K) ta tb) ρ I (.d x) L :=
  e_op ha hb fun G H a b gh lo dx dy Q q => by
    cases dx with
    | lst s r =>
      obtain rfl := dv_int dy
      obtain ⟨v, h1, h2⟩ := dpa_get r h
      exact ⟨_, _, _, v, rfl, rfl, gh.seq s, atI_nat h1, q v G H (Same.refl _) gh lo h2⟩
/-! ### arguments, displays, calls of built-ins -/
theorem a_nil : A K tNil ρ I [] I := fun G H σ gh en io Q q => q [] G H (Same.refl _) gh io trivial
theorem a_cons {tr : TA} {ds : List Dat} (ha : E K ta ρ I d J) (hr : A K tr ρ J ds L) : A K (tCons ta tr) ρ I (d :: ds) L :=
  fun G H σ gh en io Q q => ha G H σ gh en io _ fun x G1 H1 g1 gh1 j1 dx => hr G1 H1 σ gh1 (env_mono g1 en) j1 _ fun xs G2 H2 g2 gh2 j2 dxs => q (x :: xs) G2 H2 (g1.trans g2) gh2 j2 ⟨dv_mono g2 dx, dxs⟩
theorem sz_of {n : Nat} (h : n ≤ 100000) : n ≤ sizeLine := Nat.le_trans h (by decide)
theorem e_tupA {tr : TA} {ds : List PyData} (hr : A K tr ρ I (ds.map Dat.d) J) (hl : ds.length ≤ 100000) : E K (tTup tr) ρ I (.t ds) J :=
  fun G H σ gh en io Q q => hr G H σ gh en io _ fun xs G1 H1 g1 gh1 j1 dxs => by
    have r := dva_dp dxs
    refine ⟨by rw [dpa_len r]; exact sz_of hl, fun p hp => ?_⟩
    have s := Stp.new (o := .tup xs) gh1 hp
    exact q _ _ _ (g1.trans s.gg) s.gh (Asn.pure_st s j1) (.tup (.inl (.inl upd_same)) (dp_monos s.gg ds xs r))
theorem e_lstA {tr : TA} {ds : List PyData} (hr : A K tr ρ I (ds.map Dat.d) J) (hl : ds.length ≤ 100000) : E K (tLst tr) ρ I (.d (.list ds)) J :=
  fun G H σ gh en io Q q => hr G H σ gh en io _ fun xs G1 H1 g1 gh1 j1 dxs => by
    have r := dva_dp dxs
    refine ⟨by rw [dpa_len r]; exact sz_of hl, fun p hp => ?_⟩
    have s := Stp.new (o := .lst xs) gh1 hp
    exact q _ _ _ (g1.trans s.gg) s.gh (Asn.pure_st s j1) (.lst (.inl (.inl upd_same)) (dp_monos s.gg ds xs r))
inductive Ds : List Dat → List PyData → Prop
  | nil : Ds [] []
  | cons {x : PyData} {ds : List Dat} {xs : List PyData} : Ds ds xs → Ds (.d x :: ds) (x :: xs)
theorem Ds.map {ds : List Dat} {xs : List PyData} (h : Ds ds xs) : ds = xs.map Dat.d := by
  induction h with
  | nil => rfl
  | cons _ ih => rw [ih, List.map_cons]
theorem e_tup {tr : TA} {ds : List Dat} {xs : List PyData} (hr : A K tr ρ I ds J) (hd : Ds ds xs) (hl : xs.length ≤ 100000) : E K (tTup tr) ρ I (.t xs) J := e_tupA (by rw [← hd.map]; exact hr) hl
theorem e_lst {tr : TA} {ds : List Dat} {xs : List PyData} (hr : A K tr ρ I ds J) (hd : Ds ds xs) (hl : xs.length ≤ 100000) : E K (tLst tr) ρ I (.d (.list xs)) J := e_lstA (by rw [← hd.map]; exact hr) hl
theorem e_cb {r : List V → Hp → VK → Prop} {tr : TA} {ds : List Dat} (hr : A K tr ρ I ds J) (h : ∀ G H vs, Same G H → J.ok G H → DvAll K G vs ds → ∀ Q : VK, (∀ v G2 H2, Same G G2 → Same G2 H2 → L.ok G2 H2 → Dv K G2 v d → Q v H2) → r vs H Q) : E K (tCB r tr) ρ I d L :=
  fun G H σ gh en io Q q => hr G H σ gh en io _ fun xs G1 H1 g1 gh1 j1 dxs => h G1 H1 xs gh1 j1 dxs Q fun v G2 H2 g2 => q v G2 H2 (g1.trans g2)
theorem dva1 {G : Hp} {vs : List V} {d : Dat} (h : DvAll K G vs [d]) : ∃ v, vs = [v] ∧ Dv K G v d := by
  match vs, h with
  | [v], h => exact ⟨v, rfl, h.1⟩
theorem dva2 {G : Hp} {vs : List V} {d e : Dat} (h : DvAll K G vs [d, e]) : ∃ v w, vs = [v, w] ∧ Dv K G v d ∧ Dv K G w e := by
  match vs, h with
  | [v, w], h => exact ⟨v, w, rfl, h.1, h.2.1⟩
theorem e_gcd {i j : Int} {tr : TA} (hr : A K tr ρ I [.i i, .i j] J) : E K (tCB rGcd tr) ρ I (.i ((Nat.gcd i.natAbs j.natAbs : Nat) : Int)) J :=
  e_cb hr fun G H vs gh jo h Q q => by
    obtain ⟨v, w, rfl, h1, h2⟩ := dva2 h
    obtain rfl := dv_int h1
    obtain rfl := dv_int h2
    exact ⟨i, j, rfl, q _ G H (Same.refl _) gh jo (.int _)⟩
theorem e_len {ds : List PyData} {tr : TA} (hr : A K tr ρ I [.d (.list ds)] J) : E K (tCB (fun xs H Q => ∃ p ys, xs = [.ref p] ∧ (SqL K H p ys ∨ SqT K H p ys) ∧ Q (.int ys.length) H) tr) ρ I (.i (ds.length : Nat)) J :=
  e_cb hr fun G H vs gh jo h Q q => by
    obtain ⟨v, rfl, h1⟩ := dva1 h
    cases h1 with
    | lst s r => exact ⟨_, _, rfl, .inl (gh.seq s), by rw [dpa_len r]; exact q _ G H (Same.refl _) gh jo (.int _)⟩
theorem e_lenT {ds : List PyData} {tr : TA} (hr : A K tr ρ I [.t ds] J) : E K (tCB (fun xs H Q => ∃ p ys, xs = [.ref p] ∧ (SqL K H p ys ∨ SqT K H p ys) ∧ Q (.int ys.length) H) tr) ρ I (.i (ds.length : Nat)) J :=
  e_cb hr fun G H vs gh jo h Q q => by
    obtain ⟨v, rfl, h1⟩ := dva1 h
    cases h1 with
    | tup s r => exact ⟨_, _, rfl, .inr (same_t gh s), by rw [dpa_len r]; exact q _ G H (Same.refl _) gh jo (.int _)⟩
/-! ### tests -/
theorem t_test (h : E K te ρ I (.b b) J) : T K (tTest te) ρ I b J := fun G H σ gh en io Q q => h G H σ gh en io _ fun x G1 H1 g1 gh1 j1 dx => ⟨b, dv_bl dx, q G1 H1 g1 gh1 j1⟩
theorem t_B (h : E K te ρ I (.b b) J) : T K (tB te) ρ I b J := fun G H σ gh en io Q q => h G H σ gh en io _ fun x G1 H1 g1 gh1 j1 dx => ⟨b, dv_bl dx, q G1 H1 g1 gh1 j1⟩
theorem t_not (h : T K t ρ I b J) : T K (tNot t) ρ I (!b) J := fun G H σ gh en io Q q => h G H σ gh en io _ fun G1 H1 g1 gh1 j1 => q G1 H1 g1 gh1 j1
theorem t_and (h : T K t ρ I b J) (h2 : b = true → T K u ρ J c J) : T K (tAnd t u) ρ I (b && c) J := fun G H σ gh en io Q q => h G H σ gh en io _ fun G1 H1 g1 gh1 j1 => by
  cases b with
  | true =>
    show u σ H1 Q
    exact h2 rfl G1 H1 σ gh1 (env_mono g1 en) j1 Q fun G2 H2 g2 => q G2 H2 (g1.trans g2)
  | false =>
    show Q false H1
    exact q G1 H1 g1 gh1 j1
theorem t_or (h : T K t ρ I b J) (h2 : b = false → T K u ρ J c J) : T K (tOr t u) ρ I (b || c) J := fun G H σ gh en io Q q => h G H σ gh en io _ fun G1 H1 g1 gh1 j1 => by
  cases b with
  | false =>
    show u σ H1 Q
    exact h2 rfl G1 H1 σ gh1 (env_mono g1 en) j1 Q fun G2 H2 g2 => q G2 H2 (g1.trans g2)
  | true =>
    show Q true H1
    exact q G1 H1 g1 gh1 j1
/-- and, or whose outcome is told by the first -/
theorem t_andF (h : T K t ρ I false J) : T K (tAnd t u) ρ I false J := fun G H σ gh en io Q q => h G H σ gh en io _ fun G1 H1 g1 gh1 j1 => q G1 H1 g1 gh1 j1
theorem t_andT (h : T K t ρ I true J) (h2 : T K u ρ J c L) : T K (tAnd t u) ρ I c L := fun G H σ gh en io Q q => h G H σ gh en io _ fun G1 H1 g1 gh1 j1 => h2 G1 H1 σ gh1 (env_mono g1 en) j1 Q fun G2 H2 g2 => q G2 H2 (g1.trans g2)
theorem t_orT (h : T K t ρ I true J) : T K (tOr t u) ρ I true J := fun G H σ gh en io Q q => h G H σ gh en io _ fun G1 H1 g1 gh1 j1 => q G1 H1 g1 gh1 j1
theorem t_orF (h : T K t ρ I false J) (h2 : T K u ρ J c L) : T K (tOr t u) ρ I c L := fun G H σ gh en io Q q => h G H σ gh en io _ fun G1 H1 g1 gh1 j1 => h2 G1 H1 σ gh1 (env_mono g1 en) j1 Q fun G2 H2 g2 => q G2 H2 (g1.trans g2)
theorem t_is {b c : Bool} (h : T K t ρ I b J) (e : b = c) : T K t ρ I c J := e ▸ h
theorem e_is {d e : Dat} (h : E K te ρ I d J) (z : d = e) : E K te ρ I e J := z ▸ h
theorem e_ifT (h : T K t ρ I true J) (h2 : E K ta ρ J d L) : E K (tIf t ta tb) ρ I d L := fun G H σ gh en io Q q => h G H σ gh en io _ fun G1 H1 g1 gh1 j1 => h2 G1 H1 σ gh1 (env_mono g1 en) j1 Q fun v G2 H2 g2 => q v G2 H2 (g1.trans g2)
theorem e_ifF (h : T K t ρ I false J) (h2 : E K tb ρ J d L) : E K (tIf t ta tb) ρ I d L := fun G H σ gh en io Q q => h G H σ gh en io _ fun G1 H1 g1 gh1 j1 => h2 G1 H1 σ gh1 (env_mono g1 en) j1 Q fun v G2 H2 g2 => q v G2 H2 (g1.trans g2)
theorem e_notV (h : E K ta ρ I (.b b) J) : E K (tNotV ta) ρ I (.b (!b)) J := fun G H σ gh en io Q q => h G H σ gh en io _ fun x G1 H1 g1 gh1 j1 dx => ⟨b, dv_bl dx, q _ G1 H1 g1 gh1 j1 (.bl _)⟩
theorem e_andV (h : E K ta ρ I (.b b) J) (h2 : b = true → E K tb ρ J (.b c) J) : E K (tAndV ta tb) ρ I (.b (b && c)) J := fun G H σ gh en io Q q => h G H σ gh en io _ fun x G1 H1 g1 gh1 j1 dx => ⟨b, dv_bl dx, by
  cases b with
  | true =>
    show tb σ H1 Q
    exact h2 rfl G1 H1 σ gh1 (env_mono g1 en) j1 Q fun v G2 H2 g2 => q v G2 H2 (g1.trans g2)
  | false =>
    show Q (.bl false) H1
    exact q _ G1 H1 g1 gh1 j1 (.bl _)⟩
theorem e_orV (h : E K ta ρ I (.b b) J) (h2 : b = false → E K tb ρ J (.b c) J) : E K (tOrV ta tb) ρ I (.b (b || c)) J := fun G H σ gh en io Q q => h G H σ gh en io _ fun x G1 H1 g1 gh1 j1 dx => ⟨b, dv_bl dx, by
  cases b with
  | false =>
    show tb σ H1 Q
    exact h2 rfl G1 H1 σ gh1 (env_mono g1 en) j1 Q fun v G2 H2 g2 => q v G2 H2 (g1.trans g2)
  | true =>
    show Q (.bl true) H1
    exact q _ G1 H1 g1 gh1 j1 (.bl _)⟩
/-! ### statements -/
variable {ts us : TS} {k : Out}
theorem s_next : S K tNext ρ I (.nx ρ I) := fun G H σ D gh en io f => f G H σ (Same.refl _) gh en io
theorem s_asg {i : Nat} (h : E K te ρ I d J) : S K (tAsg te (gName i)) ρ I (.nx (ρ.set i (some d)) J) := fun G H σ D gh en io f => h G H σ gh en io _ fun v G1 H1 g1 gh1 j1 dv => f G1 H1 _ g1 gh1 (env_set dv (env_mono g1 en)) j1
theorem s_ret (h : E K te ρ I d J) : S K (tRet te) ρ I (.rt d J) := fun G H σ D gh en io f => h G H σ gh en io _ fun v G1 H1 g1 gh1 j1 dv => f v G1 H1 g1 gh1 j1 dv
theorem s_drop (h : E K te ρ I d J) : S K (tDrop te) ρ I (.nx ρ J) := fun G H σ D gh en io f => h G H σ gh en io _ fun v G1 H1 g1 gh1 j1 dv => f G1 H1 σ g1 gh1 (env_mono g1 en) j1
theorem s_seq (h : S K ts ρ I (.nx ρ1 J)) (h2 : S K us ρ1 J k) : S K (tSeq ts us) ρ I k := fun G H σ D gh en io f => h G H σ _ gh en io fun G1 H1 σ1 g1 gh1 en1 j1 => h2 G1 H1 σ1 D gh1 en1 j1 (f.mono g1)
theorem s_stop {d : Dat} (h : S K ts ρ I (.rt d J)) : S K (tSeq ts us) ρ I (.rt d J) := fun G H σ D gh en io f => h G H σ _ gh en io f
theorem s_stopC {ρ1 : Rho} (h : S K ts ρ I (.ct ρ1 J)) : S K (tSeq ts us) ρ I (.ct ρ1 J) := fun G H σ D gh en io f => h G H σ _ gh en io f
theorem s_stopB {ρ1 : Rho} (h : S K ts ρ I (.bk ρ1 J)) : S K (tSeq ts us) ρ I (.bk ρ1 J) := fun G H σ D gh en io f => h G H σ _ gh en io f
theorem s_cont : S K tCont ρ I (.ct ρ I) := fun G H σ D gh en io f => f G H σ (Same.refl _) gh en io
theorem s_break : S K tBreak ρ I (.bk ρ I) := fun G H σ D gh en io f => f G H σ (Same.refl _) gh en io
theorem s_ifT (h : T K t ρ I true J) (h2 : S K ts ρ J k) : S K (tIfS t ts us) ρ I k := fun G H σ D gh en io f => h G H σ gh en io _ fun G1 H1 g1 gh1 j1 => h2 G1 H1 σ D gh1 (env_mono g1 en) j1 (f.mono g1)
theorem s_ifF (h : T K t ρ I false J) (h2 : S K us ρ J k) : S K (tIfS t ts us) ρ I k := fun G H σ D gh en io f => h G H σ gh en io _ fun G1 H1 g1 gh1 j1 => h2 G1 H1 σ D gh1 (env_mono g1 en) j1 (f.mono g1)
theorem s_if (h : T K t ρ I b J) (h1 : b = true → S K ts ρ J k) (h2 : b = false → S K us ρ J k) : S K (tIfS t ts us) ρ I k := by
  cases b with
  | true => exact s_ifT h (h1 rfl)
  | false => exact s_ifF h (h2 rfl)
theorem s_par {i j : Nat} {tr : TA} (h : A K tr ρ I [d, e] J) : S K (tPar i j tr) ρ I (.nx ((ρ.set i (some d)).set j (some e)) J) := fun G H σ D gh en io f => h G H σ gh en io _ fun vs G1 H1 g1 gh1 j1 dv => by
  obtain ⟨v, w, rfl, h1, h2⟩ := dva2 dv
  exact ⟨v, w, rfl, f G1 H1 _ g1 gh1 (env_set h2 (env_set h1 (env_mono g1 en))) j1⟩
theorem s_is {k k' : Out} (h : S K ts ρ I k) (e : k = k') : S K ts ρ I k' := e ▸ h
/-- less may be known ahead -/
theorem s_less {ρ' : Rho} (l : Less ρ ρ') (h : S K ts ρ' I k) : S K ts ρ I k := fun G H σ D gh en io f => h G H σ D gh (env_less l en) io f
theorem s_lessN {ρ' ρ'' : Rho} (l : Less ρ' ρ'') (h : S K ts ρ I (.nx ρ' J)) : S K ts ρ I (.nx ρ'' J) := fun G H σ D gh en io f => h G H σ D gh en io fun G2 H2 σ2 g2 gh2 en2 => f G2 H2 σ2 g2 gh2 (env_less l en2)
/-! ### while -/
theorem s_while {α : Type} {tc : TT} (Iv : α → Prop) (P : α → Rho) (V : α → Asn) (μ : α → Nat) (s0 : α) (h0 : Iv s0)
    (turn : ∀ s, Iv s → (T K tc (P s) (V s) true (V s) ∧ ((∃ s', Iv s' ∧ μ s' < μ s ∧ S K ts (P s) (V s) (.nx (P s') (V s'))) ∨ (∃ d J, k = .rt d J ∧ S K ts (P s) (V s) k))) ∨ (T K tc (P s) (V s) false (V s) ∧ k = .nx (P s) (V s))) :
    S K (tWhile tc ts) (P s0) (V s0) k := fun G H σ D gh en io f => by
  refine ⟨fun m σ' H' => ∃ s G', m = μ s ∧ Iv s ∧ Same G G' ∧ Same G' H' ∧ EnvD K G' σ' (P s) ∧ (V s).ok G' H', ⟨μ s0, s0, G, rfl, h0, Same.refl _, gh, en, io⟩, fun m σ' H' hw => ?_⟩
  obtain ⟨s, G', rfl, iv, g', gh', en', io'⟩ := hw
  rcases turn s iv with ⟨ht, hb⟩ | ⟨ht, hk⟩
  · refine ht G' H' σ' gh' en' io' _ fun G1 H1 g1 gh1 j1 => ?_
    rcases hb with ⟨s', iv', lt, hs⟩ | ⟨d, J, rfl, hs⟩
    · refine ⟨fun σ2 H2 => ∃ G2, Same G G2 ∧ Same G2 H2 ∧ EnvD K G2 σ2 (P s') ∧ (V s').ok G2 H2, fun σ2 H2 ⟨G2, a, b, c, d⟩ => ⟨μ s', lt, s', G2, rfl, iv', a, b, c, d⟩, ?_⟩
      exact hs G1 H1 σ' _ gh1 (env_mono g1 en') j1 fun G2 H2 σ2 g2 gh2 en2 j2 => ⟨G2, (g'.trans g1).trans g2, gh2, en2, j2⟩
    · refine ⟨fun _ _ => False, fun _ _ z => z.elim, ?_⟩
      exact hs G1 H1 σ' _ gh1 (env_mono g1 en') j1 ((f.mono g').mono g1 : Fin K D G1 (.rt d J))
  · subst hk
    exact ht G' H' σ' gh' en' io' _ fun G1 H1 g1 gh1 j1 => f G1 H1 σ' (g'.trans g1) gh1 (env_mono g1 en') j1
/-! ### for over a list that never changes, a tuple, a range -/
theorem s_forL {tl : TE} {ds : List PyData} {j : Nat} (P : Nat → Rho) (V : Nat → Asn) (hl : E K tl ρ I (.d (.list ds)) (V 0)) (h0 : ρ = P 0)
    (turn : ∀ i x, ds[i]? = some x → S K ts ((P i).set j (some (.d x))) (V i) (.nx (P (i + 1)) (V (i + 1)))) : S K (tFor (iList K tl) (gName j) ts) ρ I (.nx (P ds.length) (V ds.length)) := fun G H σ D gh en io f => by
  refine hl G H σ gh en io _ fun v G1 H1 g1 gh1 j1 dv => ?_
  cases dv with
  | lst s r =>
    rename_i a xs
    subst h0
    refine ⟨a, rfl, ⟨_, gh1.seq s⟩, for_list (xs := xs) (fun i σ' H' => ∃ G', Same G1 G' ∧ Same G' H' ∧ EnvD K G' σ' (P i) ∧ (V i).ok G' H') ⟨G1, Same.refl _, gh1, env_mono g1 en, j1⟩ (fun i σ' H' _ ⟨G', a1, a2, _⟩ => (a1.trans a2).seq s) (fun i x σ' H' hx ⟨G', a1, a2, a3, a4⟩ => ?_) (fun σ' H' ⟨G', a1, a2, a3, a4⟩ => ?_)⟩
    · have hi : i < xs.length := (List.getElem?_eq_some_iff.mp hx).1
      have hi2 : i < ds.length := by rw [← dpa_len r]; exact hi
      obtain ⟨w, h1, h2⟩ := dpa_get r (List.getElem?_eq_getElem hi2)
      rw [hx] at h1
      obtain rfl := Option.some.inj h1
      exact turn i _ (List.getElem?_eq_getElem hi2) G' H' _ _ a2 (env_set (d := .d _) (dp_mono a1 _ _ h2) a3) a4 fun G2 H2 σ2 g2 gh2 en2 j2 => ⟨G2, a1.trans g2, gh2, en2, j2⟩
    · rw [dpa_len r] at a3 a4
      exact f G' H' σ' (g1.trans a1) a2 a3 a4
theorem s_forR1 {tr : TA} {n : Nat} {j : Nat} (hn : n ≤ 1000000) (P : Nat → Rho) (V : Nat → Asn) (hl : A K tr ρ I [.i (n : Nat)] (V 0)) (h0 : ρ = P 0)
    (turn : ∀ i : Nat, i < n → S K ts ((P i).set j (some (.i (i : Nat)))) (V i) (.nx (P (i + 1)) (V (i + 1)))) : S K (tFor (iRng1 tr) (gName j) ts) ρ I (.nx (P n) (V n)) := fun G H σ D gh en io f => by
  refine hl G H σ gh en io _ fun vs G1 H1 g1 gh1 j1 dv => ?_
  obtain ⟨v, rfl, h1⟩ := dva1 dv
  obtain rfl := dv_int h1
  subst h0
  refine ⟨(n : Int), rfl, by omega, by omega, ?_⟩
  refine for_range (lo := 0) (n := (n : Int).toNat) (fun i σ' H' => ∃ G', Same G1 G' ∧ Same G' H' ∧ EnvD K G' σ' (P i) ∧ (V i).ok G' H') ⟨G1, Same.refl _, gh1, env_mono g1 en, j1⟩ (fun i σ' H' hx ⟨G', a1, a2, a3, a4⟩ => ?_) (fun σ' H' ⟨G', a1, a2, a3, a4⟩ => ?_)
  · have e : (0 : Int) + (i : Int) = (i : Int) := Int.zero_add _
    rw [e]
    exact turn i (by omega) G' H' _ _ a2 (env_set (d := .i (i : Nat)) (.int _) a3) a4 fun G2 H2 σ2 g2 gh2 en2 j2 => ⟨G2, a1.trans g2, gh2, en2, j2⟩
  · rw [Int.toNat_natCast] at a3 a4
    exact f G' H' σ' (g1.trans a1) a2 a3 a4
/-! ### defs that change nothing -/
/-- the tables at T are known wherever J holds -/
class HasT (T : List Addr) (J : Asn) : Prop where
  get : ∀ G H, J.ok G H → TabsIn T G
instance : HasT [] J := ⟨fun _ _ _ p hp => by cases hp⟩
instance {T : List Addr} [h : HasT T J] : HasT T (I.and J) := ⟨fun G H z => h.get G H z.2⟩
def Asn.tab (T : List Addr) : Asn := ⟨NoA, fun G _ => TabsIn T G, fun _ _ _ _ _ _ s h => h.mono s.gg, fun _ _ _ _ z => z.elim⟩
instance {T : List Addr} : HasT T (Asn.tab T) := ⟨fun _ _ z => z⟩
/-- R ds d: of the arguments ds it hands back d; the tables at T may grow -/
def spT (K : PySem.W.Frag) (T : List Addr) (R : List Dat → Dat → Prop) : Sp := fun vs H Q _ => ∃ G ds d, Same G H ∧ DvAll K G vs ds ∧ R ds d ∧ TabsIn T G ∧ ∀ v G2 H2, Stp NoA G H G2 H2 → Dv K G2 v d → Q v H2
abbrev spP (K : PySem.W.Frag) (R : List Dat → Dat → Prop) : Sp := spT K [] R
theorem e_call {T : List Addr} {R : List Dat → Dat → Prop} {X : XK} {tr : TA} {ds : List Dat} [hT : HasT T J] (hr : A K tr ρ I ds J) (h : R ds d) : E K (tCall (spT K T R) [] X tr) ρ I d J := fun G H σ gh en io Q q => hr G H σ gh en io _ fun vs G1 H1 g1 gh1 j1 dvs => by
  rw [List.append_nil]
  exact ⟨G1, ds, d, gh1, dvs, h, hT.get _ _ j1, fun v G2 H2 s dv => q v G2 H2 (g1.trans s.gg) s.gh (Asn.pure_st s j1) dv⟩
theorem body_T {T : List Addr} {R : List Dat → Dat → Prop} {N : List Str} {vs : List V} {H : Hp} {Q : VK} {X : XK} (hb : ∀ ds d, R ds d → ∀ I, HasT T I → S K ts (ds.map some ++ List.replicate (N.length - ds.length) none) I (.rt d I)) (h : spT K T R vs H Q X) :
    ts { nx := fun _ H' => Q .non H', rt := Q } (L2.start N vs) H := by
  obtain ⟨G, ds, d, gh, dvs, r, tb, q⟩ := h
  refine hb ds d r ((Asn.since NoA G H).and (Asn.tab T)) inferInstance G H _ _ gh ?_ ⟨Stp.refl gh, tb⟩ fun v G2 H2 g2 gh2 j2 dv => q v G2 H2 j2.1 dv
  unfold L2.start
  rw [dva_len dvs]
  exact env_start _ dvs
theorem body_P {R : List Dat → Dat → Prop} {N : List Str} {vs : List V} {H : Hp} {Q : VK} {X : XK} (hb : ∀ ds d, R ds d → ∀ I, S K ts (ds.map some ++ List.replicate (N.length - ds.length) none) I (.rt d I)) (h : spP K R vs H Q X) :
    ts { nx := fun _ H' => Q .non H', rt := Q } (L2.start N vs) H := body_T (fun ds d r I _ => hb ds d r I) h
theorem len_P {T : List Addr} {R : List Dat → Dat → Prop} {n : Nat} (hl : ∀ ds d, R ds d → ds.length = n) {vs : List V} {H : Hp} {Q : VK} {X : XK} (h : spT K T R vs H Q X) : vs.length = n := by
  obtain ⟨G, ds, d, gh, dvs, r, _, q⟩ := h
  rw [dva_len dvs, hl ds d r]
end
end PL

namespace PL
open PySem PySem.Spec PyProof.Rows L2

/-! ### the drawing list -/
structure DS where
  a : Addr
  ns : List Int
  pos : Nat
  rest : Int
  seed : Int
def dO (S : DS) : HO := .lst [.ref S.a, .int (S.pos : Nat), .int S.rest, .int S.seed]
section
variable {K : PySem.W.Frag} {ρ ρ1 : Rho} {I J L N : Asn} {ta tb tc te : TE} {d e : Dat} {t u : TT} {b c : Bool} {p : Addr} {C C' : DS}
def dA (K : PySem.W.Frag) (p : Addr) (C : DS) : Asn := ⟨(· = p), fun G H => G p = none ∧ H p = some (dO C) ∧ SqL K G C.a (C.ns.map V.int), fun M G H G2 H2 n s h =>
  ⟨s.fr p _ (n p rfl) h.2.1 h.1, s.hh p _ (n p rfl) h.2.1, s.gg.seq h.2.2⟩, fun G H a h (z : a = p) => ⟨dO C, by rw [z]; exact h.2.1⟩⟩
abbrev dJ (K : PySem.W.Frag) (p : Addr) (C : DS) (J : Asn) : Asn := (dA K p C).and J
def dS (C : DS) : List Dat := [.d (.list (C.ns.map PyData.int)), .i (C.pos : Nat), .i C.rest, .i C.seed]
theorem e_dix {j : Nat} {x : Dat} (ha : E K ta ρ I (.r p) (dJ K p C J)) (hb : E K tb ρ (dJ K p C J) (.i (j : Nat)) (dJ K p C J)) (h : (dS C)[j]? = some x) : E K (tOp (rIxL K) ta tb) ρ I x (dJ K p C J) :=
  e_op ha hb fun G H v w gh lo dx dy Q q => by
    obtain rfl : v = .ref p := dx
    obtain rfl := dv_int dy
    obtain ⟨⟨l1, l2, l3⟩, l4⟩ := lo
    have done : ∀ y, atI [V.ref C.a, V.int (C.pos : Nat), V.int C.rest, V.int C.seed] (j : Int) = some y → Dv K G y x → rIxL K (.ref p) (.int (j : Int)) H Q := fun y hy dvy =>
      ⟨p, _, _, y, rfl, rfl, .inl (.inl l2), hy, q y G H (Same.refl _) gh ⟨⟨l1, l2, l3⟩, l4⟩ dvy⟩
    match j, h with
    | 0, h =>
      obtain rfl := Option.some.inj h
      exact done (.ref C.a) (atI_nat (j := 0) rfl) (.lst l3 (dpa_ints _))
    | 1, h =>
      obtain rfl := Option.some.inj h
      exact done _ (atI_nat (j := 1) rfl) (.int _)
    | 2, h =>
      obtain rfl := Option.some.inj h
      exact done _ (atI_nat (j := 2) rfl) (.int _)
    | 3, h =>
      obtain rfl := Option.some.inj h
      exact done _ (atI_nat (j := 3) rfl) (.int _)
    | n + 4, h => simp [dS] at h
/-- a store into it -/
theorem s_dset {x : Int} {j : Nat} (he : E K te ρ I (.i x) (dJ K p C J)) (ha : E K ta ρ (dJ K p C J) (.r p) (dJ K p C J)) (hb : E K tb ρ (dJ K p C J) (.i (j : Nat)) (dJ K p C J)) (hj : j < 4)
    (h : HO.lst ([V.ref C.a, V.int (C.pos : Nat), V.int C.rest, V.int C.seed].set j (.int x)) = dO C') (h2 : C'.a = C.a ∧ C'.ns = C.ns) (hf : ¬ J.foot p) :
    S K (tAsg te (gSub ta tb rSetL)) ρ I (.nx ρ (dJ K p C' J)) := fun G H σ D gh en io f => he G H σ gh en io _ fun v G1 H1 g1 gh1 j1 dv =>
  ha G1 H1 σ gh1 (env_mono g1 en) j1 _ fun o G2 H2 g2 gh2 j2 do_ => hb G2 H2 σ gh2 (env_mono (g1.trans g2) en) j2 _ fun i G3 H3 g3 gh3 j3 di => by
    obtain rfl := dv_int dv
    obtain rfl : o = .ref p := do_
    obtain rfl := dv_int di
    obtain ⟨⟨l1, l2, l3⟩, l4⟩ := j3
    have s := Stp.store (o := dO C') gh3 l1 l2
    refine ⟨p, _, (j : Int), j, rfl, rfl, l2, ?_, ?_⟩
    · unfold ixN
      rw [if_pos (by omega), if_pos (by show (j : Int) < (4 : Nat); omega)]
      simp
    · rw [h]
      refine f _ _ σ ((g1.trans g2).trans g3) s.gh (env_mono ((g1.trans g2).trans g3) en) ⟨⟨l1, upd_same, ?_⟩, J.st _ _ _ _ _ (fun a fa (z : a = p) => hf (z ▸ fa)) s l4⟩
      rw [h2.1, h2.2]
      exact l3
abbrev rInt1 : List V → Hp → VK → Prop := fun xs H Q => (∃ i, xs = [.int i] ∧ Q (.int i) H) ∨ ∃ k, xs = [.bl k] ∧ Q (.int (if k then 1 else 0)) H
theorem e_int1 {i : Int} {tr : TA} (hr : A K tr ρ I [.i i] J) : E K (tCB (fun xs H Q => (∃ i, xs = [.int i] ∧ Q (.int i) H) ∨ ∃ k, xs = [.bl k] ∧ Q (.int (if k then 1 else 0)) H) tr) ρ I (.i i) J :=
  e_cb hr fun G H vs gh jo h Q q => by
    obtain ⟨v, rfl, h1⟩ := dva1 h
    obtain rfl := dv_int h1
    exact .inl ⟨i, rfl, q _ G H (Same.refl _) gh jo (.int _)⟩
theorem e_abs {i : Int} {tr : TA} (hr : A K tr ρ I [.i i] J) : E K (tCB (fun xs H Q => ∃ i, xs = [.int i] ∧ Q (.int (if i < 0 then -i else i)) H) tr) ρ I (.i (i.natAbs : Nat)) J :=
  e_cb hr fun G H vs gh jo h Q q => by
    obtain ⟨v, rfl, h1⟩ := dva1 h
    obtain rfl := dv_int h1
    refine ⟨i, rfl, ?_⟩
    have z : (if i < 0 then -i else i) = (i.natAbs : Int) := by
      split <;> omega
    rw [z]
    exact q _ G H (Same.refl _) gh jo (.int _)
/-- defs that draw: R ds C d C': of the arguments p, ds and the list as C they hand back d and leave it as C' -/
def spW (K : PySem.W.Frag) (R : List Dat → DS → Dat → DS → Prop) : Sp := fun vs H Q _ => ∃ G ds d p C C', Same G H ∧ DvAll K G vs (.r p :: ds) ∧ (dA K p C).ok G H ∧ R ds C d C' ∧ ∀ v G2 H2, Stp (· = p) G H G2 H2 → (dA K p C').ok G2 H2 → Dv K G2 v d → Q v H2
theorem e_draw {R : List Dat → DS → Dat → DS → Prop} {X : XK} {tr : TA} {ds : List Dat} (hr : A K tr ρ I (.r p :: ds) (dJ K p C J)) (h : R ds C d C') (hf : ¬ J.foot p) : E K (tCall (spW K R) [] X tr) ρ I d (dJ K p C' J) := fun G H σ gh en io Q q => hr G H σ gh en io _ fun vs G1 H1 g1 gh1 j1 dvs => by
  rw [List.append_nil]
  exact ⟨G1, ds, d, p, C, C', gh1, dvs, j1.1, h, fun v G2 H2 s k dv => q v G2 H2 (g1.trans s.gg) s.gh ⟨k, J.st _ _ _ _ _ (fun a fa (z : a = p) => hf (z ▸ fa)) s j1.2⟩ dv⟩
theorem body_W {ts : TS} {R : List Dat → DS → Dat → DS → Prop} {N : List Str} {vs : List V} {H : Hp} {Q : VK} {X : XK} (hb : ∀ ds C d C', R ds C d C' → ∀ p J, ¬ J.foot p → S K ts (some (.r p) :: (ds.map some ++ List.replicate (N.length - (ds.length + 1)) none)) (dJ K p C J) (.rt d (dJ K p C' J))) (h : spW K R vs H Q X) :
    ts { nx := fun _ H' => Q .non H', rt := Q } (L2.start N vs) H := by
  obtain ⟨G, ds, d, p, C, C', gh, dvs, k, r, q⟩ := h
  refine hb ds C d C' r p (Asn.since (· = p) G H) (fun z => z.1 rfl) G H _ _ gh ?_ ⟨k, Stp.refl gh⟩ fun v G2 H2 g2 gh2 j2 dv => q v G2 H2 j2.2 j2.1 dv
  unfold L2.start
  rw [dva_len dvs, List.length_cons]
  exact env_start (ds := .r p :: ds) _ dvs
theorem len_W {R : List Dat → DS → Dat → DS → Prop} {n : Nat} (hl : ∀ ds C d C', R ds C d C' → ds.length + 1 = n) {vs : List V} {H : Hp} {Q : VK} {X : XK} (h : spW K R vs H Q X) : vs.length = n := by
  obtain ⟨G, ds, d, p, C, C', gh, dvs, k, r, q⟩ := h
  rw [dva_len dvs, List.length_cons, hl ds C d C' r]
/-! ### the draws themselves -/
def take1 (C : DS) (m : Int) : Int × DS :=
  if 0 < C.rest then (C.rest % m, { C with rest := C.rest / m })
  else (((C.seed * 48271 + 11) % 2147483647 / 3) % m, { C with seed := (C.seed * 48271 + 11) % 2147483647 })
def take (C : DS) (m : Int) : Int × DS :=
  if C.rest = 0 ∧ C.pos < C.ns.length then
    if ((C.ns.getD C.pos 0).natAbs : Int) < 10 ^ 18 then (((C.ns.getD C.pos 0).natAbs : Int) % m, { C with pos := C.pos + 1, rest := 0 })
    else take1 { C with pos := C.pos + 1, rest := ((C.ns.getD C.pos 0).natAbs : Int) } m
  else take1 C m
structure DOk (C : DS) : Prop where
  r : 0 ≤ C.rest
  s : 0 ≤ C.seed ∧ C.seed < 2147483647
theorem take1_ok {C : DS} {m : Int} (h : DOk C) (hm : 0 < m) : DOk (take1 C m).2 ∧ 0 ≤ (take1 C m).1 ∧ (take1 C m).1 < m := by
  unfold take1
  split
  · exact ⟨⟨Int.ediv_nonneg h.r (Int.le_of_lt hm), h.s⟩, Int.emod_nonneg _ (by omega), Int.emod_lt_of_pos _ hm⟩
  · exact ⟨⟨h.r, Int.emod_nonneg _ (by decide), Int.emod_lt_of_pos _ (by decide)⟩, Int.emod_nonneg _ (by omega), Int.emod_lt_of_pos _ hm⟩
theorem take_ok {C : DS} {m : Int} (h : DOk C) (hm : 0 < m) : DOk (take C m).2 ∧ 0 ≤ (take C m).1 ∧ (take C m).1 < m := by
  unfold take
  split
  · split
    · exact ⟨⟨Int.le_refl _, h.s⟩, Int.emod_nonneg _ (by omega), Int.emod_lt_of_pos _ hm⟩
    · exact take1_ok ⟨by show (0 : Int) ≤ ((C.ns.getD C.pos 0).natAbs : Int); omega, h.s⟩ hm
  · exact take1_ok h hm
end
end PL

/-! Fractions as pairs of integers: the program's own sums and products are the lowest terms. Plain Lean. -/
namespace FR
abbrev F := Int × Int
def Nrm (a : F) : Prop := 0 < a.2 ∧ Int.gcd a.1 a.2 = 1
/-- the lowest terms of n over d, d above 0 -/
def nf (n d : Int) : F := (n / (Int.gcd n d : Int), d / (Int.gcd n d : Int))
def lf (n d : Int) : F := if d < 0 then nf (0 - n) (0 - d) else nf n d

theorem nf_nrm {n d : Int} (h : 0 < d) : Nrm (nf n d) := by
  have g0 : 0 < Int.gcd n d := Int.gcd_pos_of_ne_zero_right n (by omega)
  refine ⟨?_, Int.gcd_ediv_gcd_ediv_gcd g0⟩
  have dv : (Int.gcd n d : Int) ∣ d := Int.gcd_dvd_right n d
  exact Int.ediv_pos_of_pos_of_dvd h (by omega) dv
theorem lf_nrm {n d : Int} (h : d ≠ 0) : Nrm (lf n d) := by
  unfold lf
  split
  · exact nf_nrm (by omega)
  · exact nf_nrm (by omega)
theorem nf_mul1 {n d : Int} (h : 0 < d) : (nf n d).1 * d = n * (nf n d).2 := by
  have g0 : 0 < Int.gcd n d := Int.gcd_pos_of_ne_zero_right n (by omega)
  obtain ⟨x, hx⟩ := Int.gcd_dvd_left n d
  obtain ⟨y, hy⟩ := Int.gcd_dvd_right n d
  have e1 : n / (Int.gcd n d : Int) = x := by
    rw [Int.ediv_eq_of_eq_mul_right (by omega) hx]
  have e2 : d / (Int.gcd n d : Int) = y := by
    rw [Int.ediv_eq_of_eq_mul_right (by omega) hy]
  show n / (Int.gcd n d : Int) * d = n * (d / (Int.gcd n d : Int))
  rw [e1, e2]
  conv => lhs; rw [hy]
  conv => rhs; rw [hx]
  grind
/-- lowest terms are one -/
theorem nrm_one {a b : F} (ha : Nrm a) (hb : Nrm b) (h : a.1 * b.2 = b.1 * a.2) : a = b := by
  obtain ⟨a1, a2⟩ := a
  obtain ⟨b1, b2⟩ := b
  obtain ⟨pa, ga⟩ := ha
  obtain ⟨pb, gb⟩ := hb
  simp only at *
  have d1 : a2 ∣ b2 := by
    have z : a2 ∣ a1 * b2 := ⟨b1, by rw [h]; grind⟩
    exact (Int.dvd_gcd_mul_iff_dvd_mul (k := a2) (n := a1) (m := b2)).mpr z |> fun q => by
      rw [Int.gcd_comm, ga] at q
      simpa using q
  have d2 : b2 ∣ a2 := by
    have z : b2 ∣ b1 * a2 := ⟨a1, by rw [← h]; grind⟩
    exact (Int.dvd_gcd_mul_iff_dvd_mul (k := b2) (n := b1) (m := a2)).mpr z |> fun q => by
      rw [Int.gcd_comm, gb] at q
      simpa using q
  have e : a2 = b2 := Int.le_antisymm (Int.le_of_dvd pb d1) (Int.le_of_dvd pa d2)
  subst e
  have e2 : a1 = b1 := Int.eq_of_mul_eq_mul_right (by omega) h
  rw [e2]
theorem nf_of {a : F} {n d : Int} (ha : Nrm a) (hd : 0 < d) (h : a.1 * d = n * a.2) : a = nf n d := by
  refine nrm_one ha (nf_nrm hd) ?_
  have z := nf_mul1 (n := n) hd
  have w : (a.1 * (nf n d).2) * d = ((nf n d).1 * a.2) * d := by
    grind
  exact Int.eq_of_mul_eq_mul_right (by omega) w
theorem nf_self {a : F} (ha : Nrm a) : nf a.1 a.2 = a := (nf_of ha ha.1 rfl).symm
theorem nf_eq {n d m e : Int} (hd : 0 < d) (he : 0 < e) (h : n * e = m * d) : nf n d = nf m e := by
  refine nf_of (nf_nrm hd) he ?_
  have z := nf_mul1 (n := n) hd
  have w : ((nf n d).1 * e) * d = (m * (nf n d).2) * d := by grind
  exact Int.eq_of_mul_eq_mul_right (by omega) w

/-! ### the program's own -/
def plusM (a b : F) : F :=
  let s : Int := (Int.gcd a.2 b.2 : Int)
  let t := a.2 / s
  let n := a.1 * (b.2 / s) + b.1 * t
  let v : Int := (Int.gcd n s : Int)
  (n / v, t * (b.2 / v))
def minusM (a b : F) : F := plusM a (-b.1, b.2)
def timesM (a b : F) : F :=
  let f : Int := (Int.gcd a.1 b.2 : Int)
  let s : Int := (Int.gcd b.1 a.2 : Int)
  ((a.1 / f) * (b.1 / s), (a.2 / s) * (b.2 / f))
theorem gcd_one_of {x y z : Int} (h : Int.gcd x y = 1) (d : z ∣ x) : Int.gcd z y = 1 := by
  have q := Int.gcd_dvd_gcd_of_dvd_left y d
  rw [h] at q
  exact Nat.dvd_one.mp q
theorem gcd_one_of2 {x y z : Int} (h : Int.gcd x y = 1) (d : z ∣ y) : Int.gcd x z = 1 := by
  rw [Int.gcd_comm] at h ⊢
  exact gcd_one_of h d
theorem gcd_add {x y k : Int} : Int.gcd (x + k * y) y = Int.gcd x y := by
  simp
theorem plus_nrm {a b : F} (ha : Nrm a) (hb : Nrm b) : Nrm (plusM a b) := by
  obtain ⟨x, p⟩ := a
  obtain ⟨y, q⟩ := b
  obtain ⟨pp, gp⟩ := ha
  obtain ⟨pq, gq⟩ := hb
  simp only at *
  have s0 : 0 < Int.gcd p q := Int.gcd_pos_of_ne_zero_right p (by omega)
  obtain ⟨p', hp⟩ := Int.gcd_dvd_left p q
  obtain ⟨q', hq⟩ := Int.gcd_dvd_right p q
  generalize hs : Int.gcd p q = s at *
  have ep : p / (s : Int) = p' := by rw [Int.ediv_eq_of_eq_mul_right (by omega) hp]
  have eq : q / (s : Int) = q' := by rw [Int.ediv_eq_of_eq_mul_right (by omega) hq]
  have pp' : 0 < p' := by
    rw [← ep]
    exact Int.ediv_pos_of_pos_of_dvd pp (by omega) ⟨p', hp⟩
  have pq' : 0 < q' := by
    rw [← eq]
    exact Int.ediv_pos_of_pos_of_dvd pq (by omega) ⟨q', hq⟩
  have cop : Int.gcd p' q' = 1 := by
    have z := Int.gcd_ediv_gcd_ediv_gcd (i := p) (j := q) (by rw [hs]; omega)
    rw [hs, ep, eq] at z
    exact z
  generalize hn : x * q' + y * p' = n
  have v0 : 0 < Int.gcd n (s : Int) := Int.gcd_pos_of_ne_zero_right n (by omega)
  have vd : (Int.gcd n (s : Int) : Int) ∣ (s : Int) := Int.gcd_dvd_right n s
  have vn : (Int.gcd n (s : Int) : Int) ∣ n := Int.gcd_dvd_left n s
  have cq : Int.gcd (n / (Int.gcd n (s : Int) : Int)) ((s : Int) / (Int.gcd n (s : Int) : Int)) = 1 := Int.gcd_ediv_gcd_ediv_gcd v0
  have dn : n / (Int.gcd n (s : Int) : Int) ∣ n := ⟨(Int.gcd n (s : Int) : Int), (Int.ediv_mul_cancel vn).symm⟩
  have np' : Int.gcd n p' = 1 := by
    have e1 : Int.gcd n p' = Int.gcd (x * q') p' := by
      rw [← hn]
      exact gcd_add
    have e2 : Int.gcd x p' = 1 := gcd_one_of2 gp ⟨s, by rw [hp]; grind⟩
    rw [e1, Int.gcd_mul_right_left_of_gcd_eq_one e2, Int.gcd_comm]
    exact cop
  have nq' : Int.gcd n q' = 1 := by
    have e1 : Int.gcd n q' = Int.gcd (y * p') q' := by
      rw [← hn, Int.add_comm]
      exact gcd_add
    have e2 : Int.gcd y q' = 1 := gcd_one_of2 gq ⟨s, by rw [hq]; grind⟩
    rw [e1, Int.gcd_mul_right_left_of_gcd_eq_one e2]
    exact cop
  have eqv : q / (Int.gcd n (s : Int) : Int) = q' * ((s : Int) / (Int.gcd n (s : Int) : Int)) := by
    rw [hq, Int.mul_comm, Int.mul_ediv_assoc _ vd]
  show 0 < (p / (Int.gcd p q : Int)) * (q / (Int.gcd (x * (q / (Int.gcd p q : Int)) + y * (p / (Int.gcd p q : Int))) (Int.gcd p q : Int) : Int)) ∧ Int.gcd ((x * (q / (Int.gcd p q : Int)) + y * (p / (Int.gcd p q : Int))) / (Int.gcd (x * (q / (Int.gcd p q : Int)) + y * (p / (Int.gcd p q : Int))) (Int.gcd p q : Int) : Int)) ((p / (Int.gcd p q : Int)) * (q / (Int.gcd (x * (q / (Int.gcd p q : Int)) + y * (p / (Int.gcd p q : Int))) (Int.gcd p q : Int) : Int))) = 1
  rw [hs, ep, eq, hn, eqv]
  have psv : 0 < (s : Int) / (Int.gcd n (s : Int) : Int) := Int.ediv_pos_of_pos_of_dvd (by omega) (by omega) vd
  refine ⟨Int.mul_pos pp' (Int.mul_pos pq' psv), ?_⟩
  rw [Int.gcd_mul_right_right_of_gcd_eq_one (gcd_one_of np' dn), Int.gcd_mul_right_right_of_gcd_eq_one (gcd_one_of nq' dn)]
  exact cq
theorem plus_eq {a b : F} (ha : Nrm a) (hb : Nrm b) : plusM a b = nf (a.1 * b.2 + b.1 * a.2) (a.2 * b.2) := by
  refine nf_of (plus_nrm ha hb) (Int.mul_pos ha.1 hb.1) ?_
  obtain ⟨x, p⟩ := a
  obtain ⟨y, q⟩ := b
  obtain ⟨pp, gp⟩ := ha
  obtain ⟨pq, gq⟩ := hb
  simp only at *
  have s0 : 0 < Int.gcd p q := Int.gcd_pos_of_ne_zero_right p (by omega)
  obtain ⟨p', hp⟩ := Int.gcd_dvd_left p q
  obtain ⟨q', hq⟩ := Int.gcd_dvd_right p q
  generalize hs : Int.gcd p q = s at *
  have ep : p / (s : Int) = p' := by rw [Int.ediv_eq_of_eq_mul_right (by omega) hp]
  have eq : q / (s : Int) = q' := by rw [Int.ediv_eq_of_eq_mul_right (by omega) hq]
  generalize hn : x * q' + y * p' = n
  have v0 : 0 < Int.gcd n (s : Int) := Int.gcd_pos_of_ne_zero_right n (by omega)
  obtain ⟨n', vn⟩ := Int.gcd_dvd_left n (s : Int)
  obtain ⟨s', vs⟩ := Int.gcd_dvd_right n (s : Int)
  generalize hv : Int.gcd n (s : Int) = v at *
  have en : n / (v : Int) = n' := by rw [Int.ediv_eq_of_eq_mul_right (by omega) vn]
  have eqv : q / (v : Int) = s' * q' := by
    rw [Int.ediv_eq_of_eq_mul_right (by omega) (show q = (v : Int) * (s' * q') by rw [← Int.mul_assoc, ← vs, ← hq])]
  show ((x * (q / (Int.gcd p q : Int)) + y * (p / (Int.gcd p q : Int))) / (Int.gcd (x * (q / (Int.gcd p q : Int)) + y * (p / (Int.gcd p q : Int))) (Int.gcd p q : Int) : Int)) * (p * q) = (x * q + y * p) * ((p / (Int.gcd p q : Int)) * (q / (Int.gcd (x * (q / (Int.gcd p q : Int)) + y * (p / (Int.gcd p q : Int))) (Int.gcd p q : Int) : Int)))
  rw [hs, ep, eq, hn, hv, en, eqv]
  have e1 : x * q + y * p = (s : Int) * n := by
    rw [← hn, hp, hq]
    grind
  rw [e1, hp, hq, vn]
  conv => lhs; rw [vs]
  conv => rhs; rw [vs]
  grind
theorem times_nrm {a b : F} (ha : Nrm a) (hb : Nrm b) : Nrm (timesM a b) := by
  obtain ⟨x, p⟩ := a
  obtain ⟨y, q⟩ := b
  obtain ⟨pp, gp⟩ := ha
  obtain ⟨pq, gq⟩ := hb
  simp only at *
  have f0 : 0 < Int.gcd x q := Int.gcd_pos_of_ne_zero_right x (by omega)
  have s0 : 0 < Int.gcd y p := Int.gcd_pos_of_ne_zero_right y (by omega)
  have d1 := Int.gcd_dvd_left x q
  have d2 := Int.gcd_dvd_right x q
  have d3 := Int.gcd_dvd_left y p
  have d4 := Int.gcd_dvd_right y p
  have c1 : Int.gcd (x / (Int.gcd x q : Int)) (q / (Int.gcd x q : Int)) = 1 := Int.gcd_ediv_gcd_ediv_gcd f0
  have c2 : Int.gcd (y / (Int.gcd y p : Int)) (p / (Int.gcd y p : Int)) = 1 := Int.gcd_ediv_gcd_ediv_gcd s0
  have m1 : x / (Int.gcd x q : Int) ∣ x := ⟨_, (Int.ediv_mul_cancel d1).symm⟩
  have m2 : q / (Int.gcd x q : Int) ∣ q := ⟨_, (Int.ediv_mul_cancel d2).symm⟩
  have m3 : y / (Int.gcd y p : Int) ∣ y := ⟨_, (Int.ediv_mul_cancel d3).symm⟩
  have m4 : p / (Int.gcd y p : Int) ∣ p := ⟨_, (Int.ediv_mul_cancel d4).symm⟩
  have c3 : Int.gcd (x / (Int.gcd x q : Int)) (p / (Int.gcd y p : Int)) = 1 := gcd_one_of (gcd_one_of2 gp m4) m1
  have c4 : Int.gcd (y / (Int.gcd y p : Int)) (q / (Int.gcd x q : Int)) = 1 := gcd_one_of (gcd_one_of2 gq m2) m3
  refine ⟨Int.mul_pos (Int.ediv_pos_of_pos_of_dvd pp (by omega) d4) (Int.ediv_pos_of_pos_of_dvd pq (by omega) d2), ?_⟩
  show Int.gcd ((x / (Int.gcd x q : Int)) * (y / (Int.gcd y p : Int))) ((p / (Int.gcd y p : Int)) * (q / (Int.gcd x q : Int))) = 1
  have t1 : Int.gcd ((x / (Int.gcd x q : Int)) * (y / (Int.gcd y p : Int))) (p / (Int.gcd y p : Int)) = 1 := by
    rw [Int.gcd_mul_right_left_of_gcd_eq_one c3]
    exact c2
  rw [Int.gcd_mul_right_right_of_gcd_eq_one t1, Int.gcd_mul_right_left_of_gcd_eq_one c1]
  exact c4
theorem times_eq {a b : F} (ha : Nrm a) (hb : Nrm b) : timesM a b = nf (a.1 * b.1) (a.2 * b.2) := by
  refine nf_of (times_nrm ha hb) (Int.mul_pos ha.1 hb.1) ?_
  obtain ⟨x, p⟩ := a
  obtain ⟨y, q⟩ := b
  obtain ⟨pp, gp⟩ := ha
  obtain ⟨pq, gq⟩ := hb
  simp only at *
  have f0 : 0 < Int.gcd x q := Int.gcd_pos_of_ne_zero_right x (by omega)
  have s0 : 0 < Int.gcd y p := Int.gcd_pos_of_ne_zero_right y (by omega)
  obtain ⟨x', h1⟩ := Int.gcd_dvd_left x q
  obtain ⟨q', h2⟩ := Int.gcd_dvd_right x q
  obtain ⟨y', h3⟩ := Int.gcd_dvd_left y p
  obtain ⟨p', h4⟩ := Int.gcd_dvd_right y p
  show ((x / (Int.gcd x q : Int)) * (y / (Int.gcd y p : Int))) * (p * q) = (x * y) * ((p / (Int.gcd y p : Int)) * (q / (Int.gcd x q : Int)))
  generalize hf : Int.gcd x q = f at *
  generalize hs : Int.gcd y p = s at *
  have e1 : x / (f : Int) = x' := by rw [Int.ediv_eq_of_eq_mul_right (by omega) h1]
  have e2 : q / (f : Int) = q' := by rw [Int.ediv_eq_of_eq_mul_right (by omega) h2]
  have e3 : y / (s : Int) = y' := by rw [Int.ediv_eq_of_eq_mul_right (by omega) h3]
  have e4 : p / (s : Int) = p' := by rw [Int.ediv_eq_of_eq_mul_right (by omega) h4]
  rw [e1, e2, e3, e4, h1, h2, h3, h4]
  grind
theorem neg_nrm {b : F} (hb : Nrm b) : Nrm (-b.1, b.2) := ⟨hb.1, by
  show Int.gcd (-b.1) b.2 = 1
  rw [Int.neg_gcd]
  exact hb.2⟩
theorem minus_eq {a b : F} (ha : Nrm a) (hb : Nrm b) : minusM a b = nf (a.1 * b.2 - b.1 * a.2) (a.2 * b.2) := by
  unfold minusM
  rw [plus_eq ha (neg_nrm hb)]
  show nf (a.1 * b.2 + -b.1 * a.2) (a.2 * b.2) = _
  rw [Int.neg_mul, ← Int.sub_eq_add_neg]
theorem minus_nrm {a b : F} (ha : Nrm a) (hb : Nrm b) : Nrm (minusM a b) := plus_nrm ha (neg_nrm hb)

/-! ### sizes -/
def Sz (n : Nat) (a : F) : Prop := a.1.natAbs < 2 ^ n ∧ a.2.natAbs < 2 ^ n
theorem sz_le {x : Int} {m n : Nat} (h : x.natAbs < 2 ^ m) (hm : m ≤ n) : x.natAbs < 2 ^ n := Nat.lt_of_lt_of_le h (Nat.pow_le_pow_right (by decide) hm)
theorem Sz.mono {m n : Nat} {a : F} (h : Sz m a) (hm : m ≤ n) : Sz n a := ⟨sz_le h.1 hm, sz_le h.2 hm⟩
theorem sz_mul {x y : Int} {m n : Nat} (h : x.natAbs < 2 ^ m) (k : y.natAbs < 2 ^ n) : (x * y).natAbs < 2 ^ (m + n) := by
  rw [Int.natAbs_mul, Nat.pow_add]
  exact Nat.mul_lt_mul'' h k
theorem sz_add {x y : Int} {m : Nat} (h : x.natAbs < 2 ^ m) (k : y.natAbs < 2 ^ m) : (x + y).natAbs < 2 ^ (m + 1) := by
  rw [Nat.pow_succ]
  omega
theorem sz_sub {x y : Int} {m : Nat} (h : x.natAbs < 2 ^ m) (k : y.natAbs < 2 ^ m) : (x - y).natAbs < 2 ^ (m + 1) := by
  rw [Nat.pow_succ]
  omega
theorem sz_neg {x : Int} {m : Nat} (h : x.natAbs < 2 ^ m) : (-x).natAbs < 2 ^ m := by
  rw [Int.natAbs_neg]
  exact h
theorem sz_div {x y : Int} {m : Nat} (h : x.natAbs < 2 ^ m) (d : y ∣ x) : (x / y).natAbs < 2 ^ m := by
  rw [Int.natAbs_ediv_of_dvd d]
  exact Nat.lt_of_le_of_lt (Nat.div_le_self _ _) h
theorem sz_gcd {x y : Int} {m : Nat} (h : y.natAbs < 2 ^ m) (hy : y ≠ 0) : ((Int.gcd x y : Nat) : Int).natAbs < 2 ^ m := Nat.lt_of_le_of_lt (by rw [Int.natAbs_natCast]; exact Int.gcd_le_natAbs_right x hy) h
theorem sz_nf {n d : Int} {m : Nat} (h : n.natAbs < 2 ^ m) (k : d.natAbs < 2 ^ m) : Sz m (nf n d) := ⟨sz_div h (Int.gcd_dvd_left n d), sz_div k (Int.gcd_dvd_right n d)⟩
theorem sz_plus {a b : F} {m n : Nat} (ha : Nrm a) (hb : Nrm b) (h : Sz m a) (k : Sz n b) : Sz (m + n + 1) (plusM a b) := by
  rw [plus_eq ha hb]
  refine sz_nf (sz_add (sz_mul h.1 k.2) ?_) (sz_le (sz_mul h.2 k.2) (by omega))
  rw [Nat.add_comm m n]
  exact sz_mul k.1 h.2
theorem sz_minus {a b : F} {m n : Nat} (ha : Nrm a) (hb : Nrm b) (h : Sz m a) (k : Sz n b) : Sz (m + n + 1) (minusM a b) := sz_plus ha (neg_nrm hb) h ⟨sz_neg k.1, k.2⟩
theorem sz_times {a b : F} {m n : Nat} (ha : Nrm a) (hb : Nrm b) (h : Sz m a) (k : Sz n b) : Sz (m + n) (timesM a b) := by
  rw [times_eq ha hb]
  exact sz_nf (sz_mul h.1 k.1) (sz_mul h.2 k.2)
/-! ### the law's own gcd -/
theorem gcd_step (a b : Int) : Int.gcd b (a % b) = Int.gcd a b := by
  have e : a % b = a + (-(a / b)) * b := by
    rw [Int.emod_def]
    grind
  rw [Int.gcd_comm, e, gcd_add]
/-! ### the law's own -/
def lplus (a b : F) : F := lf (a.1 * b.2 + b.1 * a.2) (a.2 * b.2)
def lminus (a b : F) : F := lf (a.1 * b.2 - b.1 * a.2) (a.2 * b.2)
def ltimes (a b : F) : F := lf (a.1 * b.1) (a.2 * b.2)
theorem lf_pos {n d : Int} (h : 0 < d) : lf n d = nf n d := by
  unfold lf
  exact if_neg (by omega)
theorem lplus_eq {a b : F} (ha : Nrm a) (hb : Nrm b) : lplus a b = plusM a b := by
  unfold lplus
  rw [lf_pos (Int.mul_pos ha.1 hb.1), plus_eq ha hb]
theorem lminus_eq {a b : F} (ha : Nrm a) (hb : Nrm b) : lminus a b = minusM a b := by
  unfold lminus
  rw [lf_pos (Int.mul_pos ha.1 hb.1), minus_eq ha hb]
theorem ltimes_eq {a b : F} (ha : Nrm a) (hb : Nrm b) : ltimes a b = timesM a b := by
  unfold ltimes
  rw [lf_pos (Int.mul_pos ha.1 hb.1), times_eq ha hb]
/-! ### order, quotients -/
def less (a b : F) : Bool := decide (a.1 * b.2 < b.1 * a.2)
def cmpM (a b : F) : Int := if a.1 * b.2 < b.1 * a.2 then -1 else if b.1 * a.2 < a.1 * b.2 then 1 else 0
theorem le_trans {a b c : F} (ha : 0 < a.2) (hb : 0 < b.2) (hc : 0 < c.2) (h1 : a.1 * b.2 ≤ b.1 * a.2) (h2 : b.1 * c.2 ≤ c.1 * b.2) : a.1 * c.2 ≤ c.1 * a.2 := by
  have z1 : a.1 * b.2 * c.2 ≤ b.1 * a.2 * c.2 := Int.mul_le_mul_of_nonneg_right h1 (by omega)
  have z2 : b.1 * c.2 * a.2 ≤ c.1 * b.2 * a.2 := Int.mul_le_mul_of_nonneg_right h2 (by omega)
  have z3 : (a.1 * c.2) * b.2 ≤ (c.1 * a.2) * b.2 := by grind
  exact Int.le_of_mul_le_mul_right z3 hb
theorem less_tr (a b c : F) (ha : 0 < a.2) (hb : 0 < b.2) (hc : 0 < c.2) (h1 : less b a = false) (h2 : less c b = false) : less c a = false := by
  unfold less at *
  have h1' := of_decide_eq_false h1
  have h2' := of_decide_eq_false h2
  refine decide_eq_false fun z => ?_
  have := le_trans ha hb hc (by omega) (by omega)
  omega
theorem less_as (a b : F) (h : less a b = true) : less b a = false := by
  unfold less at *
  have h := of_decide_eq_true h
  exact decide_eq_false (by omega)
/-- the best of a row, by «is i before b» -/
def bestL (f : F → F → Bool) : F → List F → F := List.foldl fun b i => if f i b then i else b
theorem bestL_snoc (f : F → F → Bool) (x : F) (xs : List F) (i : F) : bestL f x (xs ++ [i]) = if f i (bestL f x xs) then i else bestL f x xs := by
  unfold bestL
  rw [List.foldl_append]
  rfl
theorem bestL_mem (f : F → F → Bool) : ∀ (xs : List F) (x : F), bestL f x xs = x ∨ bestL f x xs ∈ xs
  | [], x => .inl rfl
  | i :: xs, x => by
    have e : bestL f x (i :: xs) = bestL f (if f i x then i else x) xs := rfl
    rw [e]
    rcases bestL_mem f xs (if f i x then i else x) with h | h
    · rw [h]
      by_cases c : f i x = true
      · rw [if_pos c]
        exact .inr List.mem_cons_self
      · rw [if_neg c]
        exact .inl rfl
    · exact .inr (List.mem_cons_of_mem _ h)
theorem bestL_min {f : F → F → Bool} (tr : ∀ a b c : F, 0 < a.2 → 0 < b.2 → 0 < c.2 → f b a = false → f c b = false → f c a = false) (as : ∀ a b, f a b = true → f b a = false) :
    ∀ (xs : List F) (x : F), 0 < x.2 → (∀ y ∈ xs, 0 < y.2) → (∀ y ∈ xs, f y (bestL f x xs) = false) ∧ f x (bestL f x xs) = false
  | [], x, _, _ => ⟨fun _ h => by simp at h, by
      show f x x = false
      cases e : f x x with
      | false => rfl
      | true => exact (e.symm.trans (as x x e)).symm ▸ rfl⟩
  | i :: xs, x, hx, hs => by
    have hi := hs i List.mem_cons_self
    have hr : ∀ y ∈ xs, 0 < y.2 := fun y hy => hs y (List.mem_cons_of_mem _ hy)
    show (∀ y ∈ i :: xs, f y (bestL f (if f i x then i else x) xs) = false) ∧ f x (bestL f (if f i x then i else x) xs) = false
    have pos : ∀ z : F, 0 < z.2 → 0 < (bestL f z xs).2 := fun z hz => by
      rcases bestL_mem f xs z with e | e
      · rw [e]; exact hz
      · exact hr _ e
    by_cases c : f i x = true
    · rw [if_pos c]
      obtain ⟨h1, h2⟩ := bestL_min tr as xs i hi hr
      refine ⟨fun y hy => ?_, tr _ _ _ (pos i hi) hi hx h2 (as _ _ c)⟩
      rcases List.mem_cons.mp hy with rfl | hy
      · exact h2
      · exact h1 y hy
    · rw [if_neg c]
      have c := Bool.eq_false_iff.mpr c
      obtain ⟨h1, h2⟩ := bestL_min tr as xs x hx hr
      refine ⟨fun y hy => ?_, h2⟩
      rcases List.mem_cons.mp hy with rfl | hy
      · exact tr _ _ _ (pos x hx) hx hi h2 c
      · exact h1 y hy
/-! ### quotients -/
def invM (b : F) : F := if b.1 < 0 then (-b.2, -b.1) else (b.2, b.1)
def overM (a b : F) : F := timesM a (invM b)
theorem inv_nrm {b : F} (hb : Nrm b) (h : b.1 ≠ 0) : Nrm (invM b) := by
  unfold invM
  split
  · refine ⟨by show 0 < -b.1; omega, ?_⟩
    show Int.gcd (-b.2) (-b.1) = 1
    rw [Int.neg_gcd, Int.gcd_neg, Int.gcd_comm]
    exact hb.2
  · refine ⟨by show 0 < b.1; omega, ?_⟩
    show Int.gcd b.2 b.1 = 1
    rw [Int.gcd_comm]
    exact hb.2
theorem inv_mul (b : F) : (invM b).1 * b.1 = (invM b).2 * b.2 := by
  unfold invM
  split
  · show -b.2 * b.1 = -b.1 * b.2
    grind
  · show b.2 * b.1 = b.1 * b.2
    grind
theorem over_nrm {a b : F} (ha : Nrm a) (hb : Nrm b) (h : b.1 ≠ 0) : Nrm (overM a b) := times_nrm ha (inv_nrm hb h)
theorem times_cross {a b : F} (ha : Nrm a) (hb : Nrm b) : (timesM a b).1 * (a.2 * b.2) = (a.1 * b.1) * (timesM a b).2 := by
  rw [times_eq ha hb]
  exact nf_mul1 (Int.mul_pos ha.1 hb.1)
theorem plus_cross {a b : F} (ha : Nrm a) (hb : Nrm b) : (plusM a b).1 * (a.2 * b.2) = (a.1 * b.2 + b.1 * a.2) * (plusM a b).2 := by
  rw [plus_eq ha hb]
  exact nf_mul1 (Int.mul_pos ha.1 hb.1)
theorem minus_cross {a b : F} (ha : Nrm a) (hb : Nrm b) : (minusM a b).1 * (a.2 * b.2) = (a.1 * b.2 - b.1 * a.2) * (minusM a b).2 := by
  rw [minus_eq ha hb]
  exact nf_mul1 (Int.mul_pos ha.1 hb.1)
theorem over_cross {a b : F} (ha : Nrm a) (hb : Nrm b) (h : b.1 ≠ 0) : (overM a b).1 * (a.2 * b.1) = (a.1 * b.2) * (overM a b).2 := by
  have z := times_cross ha (inv_nrm hb h)
  unfold overM
  unfold invM at *
  split at z
  · rename_i c
    rw [if_pos c]
    simp only at z
    grind
  · rename_i c
    rw [if_neg c]
    exact z
theorem lf_cross {n d : Int} (h : d ≠ 0) : (lf n d).1 * d = n * (lf n d).2 := by
  unfold lf
  split
  · rename_i c
    have z := nf_mul1 (n := 0 - n) (show 0 < 0 - d by omega)
    grind
  · exact nf_mul1 (by omega)
/-- the program's own fraction -/
theorem fdivZ {n g : Int} (hg : 0 < g) (h : g ∣ n) : n.fdiv (-g) = (0 - n) / g := by
  rw [Int.fdiv_eq_ediv_of_dvd ((Int.neg_dvd).mpr h), Int.ediv_neg, Int.zero_sub, Int.neg_ediv_of_dvd h]
end FR

namespace PL
open PySem PySem.Spec PyProof.Rows L2 FR

section
variable {K : PySem.W.Frag} {G : Hp}
theorem dpa_ints_inv : ∀ (ns : List Int) (xs : List V), DpAll K G xs (ns.map PyData.int) → xs = ns.map V.int
  | [], _, r => by
    cases r
    rfl
  | n :: ns, _, r => by
    cases r with
    | cons r1 r2 =>
      cases r1
      rw [dpa_ints_inv ns _ r2, List.map_cons]
theorem dpa_at {vs : List V} {ds : List PyData} {i : Int} {x : PyData} (r : DpAll K G vs ds) (h : atI ds i = some x) : ∃ v, atI vs i = some v ∧ Dp K G v x := by
  unfold atI at h ⊢
  rw [dpa_len r]
  cases e : ixN ds.length i with
  | none => rw [e] at h; simp at h
  | some j =>
    rw [e] at h
    exact dpa_get r h
end
section
variable {K : PySem.W.Frag} {ρ ρ1 : Rho} {I J L N : Asn} {ta tb tc te : TE} {d e : Dat} {t u : TT} {b c : Bool} {p : Addr} {C C' : DS}
theorem e_ixT' {ds : List PyData} {i : Int} {x : PyData} (ha : E K ta ρ I (.t ds) J) (hb : E K tb ρ J (.i i) L) (h : atI ds i = some x) : E K (tOp (rIxT K) ta tb) ρ I (.d x) L :=
  e_op ha hb fun G H a b gh lo dx dy Q q => by
    cases dx with
    | tup s r =>
      obtain rfl := dv_int dy
      obtain ⟨v, h1, h2⟩ := dpa_at r h
      exact ⟨_, _, _, v, rfl, rfl, same_t gh s, h1, q v G H (Same.refl _) gh lo h2⟩
theorem e_ixL' {ds : List PyData} {i : Int} {x : PyData} (ha : E K ta ρ I (.d (.list ds)) J) (hb : E K tb ρ J (.i i) L) (h : atI ds i = some x) : E K (tOp (rIxL K) ta tb) ρ I (.d x) L :=
  e_op ha hb fun G H a b gh lo dx dy Q q => by
    cases dx with
    | lst s r =>
      obtain rfl := dv_int dy
      obtain ⟨v, h1, h2⟩ := dpa_at r h
      exact ⟨_, _, _, v, rfl, rfl, gh.seq s, h1, q v G H (Same.refl _) gh lo h2⟩
/-! ### fractions as data -/
abbrev fr (a : F) : PyData := .tuple [.int a.1, .int a.2]
theorem e_f1 {a : F} (ha : E K ta ρ I (.d (fr a)) J) (hb : E K tb ρ J (.i 0) L) : E K (tOp (rIxT K) ta tb) ρ I (.i a.1) L := e_ixT' ha hb rfl
theorem e_f2 {a : F} (ha : E K ta ρ I (.d (fr a)) J) (hb : E K tb ρ J (.i 1) L) : E K (tOp (rIxT K) ta tb) ρ I (.i a.2) L := e_ixT' ha hb rfl
theorem e_frac {tr : TA} {x y : Int} {a : F} (hr : A K tr ρ I [.i x, .i y] J) (h : a = (x, y)) : E K (tTup tr) ρ I (.d (fr a)) J := by
  subst h
  exact e_tup hr (.cons (.cons .nil)) (show 2 ≤ 100000 by decide)
/-- a fraction in lowest terms below 2 ^ n -/
structure Ok (n : Nat) (a : F) : Prop where
  nrm : Nrm a
  sz : Sz n a
theorem Ok.mono {m n : Nat} {a : F} (h : Ok m a) (hm : m ≤ n) : Ok n a := ⟨h.nrm, h.sz.mono hm⟩
theorem ok_plus {m n : Nat} {a b : F} (h : Ok m a) (k : Ok n b) : Ok (m + n + 1) (plusM a b) := ⟨plus_nrm h.nrm k.nrm, sz_plus h.nrm k.nrm h.sz k.sz⟩
theorem ok_minus {m n : Nat} {a b : F} (h : Ok m a) (k : Ok n b) : Ok (m + n + 1) (minusM a b) := ⟨minus_nrm h.nrm k.nrm, sz_minus h.nrm k.nrm h.sz k.sz⟩
theorem ok_times {m n : Nat} {a b : F} (h : Ok m a) (k : Ok n b) : Ok (m + n) (timesM a b) := ⟨times_nrm h.nrm k.nrm, sz_times h.nrm k.nrm h.sz k.sz⟩
theorem ok_neg {n : Nat} {b : F} (k : Ok n b) : Ok n (-b.1, b.2) := ⟨neg_nrm k.nrm, sz_neg k.sz.1, k.sz.2⟩
theorem ok_lf {n : Nat} {x y : Int} (hy : y ≠ 0) (hx : x.natAbs < 2 ^ n) (hz : y.natAbs < 2 ^ n) : Ok n (lf x y) := by
  refine ⟨lf_nrm hy, ?_⟩
  unfold lf
  split
  · exact sz_nf (by rw [Int.zero_sub, Int.natAbs_neg]; exact hx) (by rw [Int.zero_sub, Int.natAbs_neg]; exact hz)
  · exact sz_nf hx hz
theorem divW {i j : Int} {n : Nat} (h : 0 < j) (hb : j.natAbs < 2 ^ n) (hn : n ≤ 9000) : CDivW i j := wide_div (b := 9000) h (sz_le hb hn) (by decide) (by decide)
theorem mulW {i j : Int} {m n : Nat} (ha : i.natAbs < 2 ^ m) (hb : j.natAbs < 2 ^ n) (h : m + n ≤ 900000) : CMulW i j := wide_mul (a := m + 1) (b := n + 1) (sz_le ha (by omega)) (sz_le hb (by omega)) (by omega) (by omega) (by omega)
theorem gcdN {i j : Int} : ((Nat.gcd i.natAbs j.natAbs : Nat) : Int) = (Int.gcd i j : Int) := rfl
/-! ### what the common defs promise -/
def RPlus (f : F → F → F) (ds : List Dat) (d : Dat) : Prop := ∃ a b : F, ds = [.d (fr a), .d (fr b)] ∧ Ok 4000 a ∧ Ok 4000 b ∧ d = .d (fr (f a b))
theorem RPlus.mk {f : F → F → F} {a b : F} {m n : Nat} (ha : Ok m a) (hb : Ok n b) (hm : m ≤ 4000 := by omega) (hn : n ≤ 4000 := by omega) : RPlus f [.d (fr a), .d (fr b)] (.d (fr (f a b))) := ⟨a, b, rfl, ha.mono hm, hb.mono hn, rfl⟩
theorem RPlus.len {f : F → F → F} {ds : List Dat} {d : Dat} (h : RPlus f ds d) : ds.length = 2 := by
  obtain ⟨a, b, rfl, _⟩ := h
  rfl
/-- of two vectors -/
def vc (a b : F) : PyData := .tuple [fr a, fr b]
def RGcd (ds : List Dat) (d : Dat) : Prop := ∃ x y : Int, ds = [.i x, .i y] ∧ 0 ≤ x ∧ 0 ≤ y ∧ d = .i (Int.gcd x y : Int)
def RF (ds : List Dat) (d : Dat) : Prop := ∃ x y : Int, ds = [.i x, .i y] ∧ y ≠ 0 ∧ x.natAbs < 2 ^ 8500 ∧ y.natAbs < 2 ^ 8500 ∧ d = .d (fr (lf x y))
theorem RF.mk {x y : Int} {m n : Nat} (h0 : y ≠ 0) (hx : x.natAbs < 2 ^ m) (hy : y.natAbs < 2 ^ n) (hm : m ≤ 8500 := by omega) (hn : n ≤ 8500 := by omega) : RF [.i x, .i y] (.d (fr (lf x y))) := ⟨x, y, rfl, h0, sz_le hx hm, sz_le hy hn, rfl⟩
def RTake (ds : List Dat) (C : DS) (d : Dat) (C' : DS) : Prop := ∃ m : Int, ds = [.i m] ∧ DOk C ∧ 0 < m ∧ m.natAbs < 2 ^ 8500 ∧ d = .i (take C m).1 ∧ C' = (take C m).2
/-- draws from -m to m -/
def RSigned (ds : List Dat) (C : DS) (d : Dat) (C' : DS) : Prop := ∃ m : Int, ds = [.i m] ∧ DOk C ∧ 0 ≤ m ∧ m.natAbs < 2 ^ 8000 ∧ d = .i ((take C (2 * m + 1)).1 - m) ∧ C' = (take C (2 * m + 1)).2
def partM (C : DS) (m : Int) : F × DS :=
  let p := take C (2 * (m * 2) + 1)
  let q := take p.2 3
  (lf (p.1 - m * 2) (1 + q.1), q.2)
def RPart (ds : List Dat) (C : DS) (d : Dat) (C' : DS) : Prop := ∃ m : Int, ds = [.i m] ∧ DOk C ∧ 0 ≤ m ∧ m.natAbs < 2 ^ 7000 ∧ d = .d (fr (partM C m).1) ∧ C' = (partM C m).2
theorem part_ok {C : DS} {m : Int} {n : Nat} (h : DOk C) (hm : 0 ≤ m) (hn : m.natAbs < 2 ^ n) : DOk (partM C m).2 ∧ Ok (n + 2) (partM C m).1 := by
  obtain ⟨h1, h2, h3⟩ := take_ok (C := C) (m := 2 * (m * 2) + 1) h (by omega)
  obtain ⟨h4, h5, h6⟩ := take_ok (C := (take C (2 * (m * 2) + 1)).2) (m := 3) h1 (by omega)
  refine ⟨h4, ok_lf ?_ ?_ ?_⟩
  · omega
  · have : (2 : Nat) ^ (n + 2) = 4 * 2 ^ n := by rw [Nat.pow_add]; omega
    omega
  · have : (2 : Nat) ^ (n + 2) = 4 * 2 ^ n := by rw [Nat.pow_add]; omega
    have := Nat.one_le_two_pow (n := n)
    omega
def vecM (C : DS) (m : Int) : (F × F) × DS :=
  let p := partM C m
  let q := partM p.2 m
  ((p.1, q.1), q.2)
theorem vec_ok {C : DS} {m : Int} {n : Nat} (h : DOk C) (hm : 0 ≤ m) (hn : m.natAbs < 2 ^ n) : DOk (vecM C m).2 ∧ Ok (n + 2) (vecM C m).1.1 ∧ Ok (n + 2) (vecM C m).1.2 :=
  ⟨(part_ok (part_ok h hm hn).1 hm hn).1, (part_ok h hm hn).2, (part_ok (part_ok h hm hn).1 hm hn).2⟩
def RVec (ds : List Dat) (C : DS) (d : Dat) (C' : DS) : Prop := ∃ m : Int, ds = [.i m] ∧ DOk C ∧ 0 ≤ m ∧ m.natAbs < 2 ^ 7000 ∧ d = .d (.tuple [fr (vecM C m).1.1, fr (vecM C m).1.2]) ∧ C' = (vecM C m).2
/-- the script's list at the law's beginning -/
def spBegin (K : PySem.W.Frag) : Sp := fun vs H Q _ => ∃ (a : Addr) (ns : List Int) (G : Hp), vs = [.ref a] ∧ Same G H ∧ SqL K G a (ns.map V.int) ∧ ∀ G2 H2 p C, Stp NoA G H G2 H2 → DOk C → G2 p = none → H p = none → (dA K p C).ok G2 H2 → Q (.ref p) H2
theorem s_begin {ts : TS} {X : XK} {tr : TA} {ns : List Int} {i : Nat} {k : Out} (hr : A K tr ρ .tt [.d (.list (ns.map PyData.int))] .tt) (h : ∀ p C, DOk C → S K ts (ρ.set i (some (.r p))) (dJ K p C .tt) k) : S K (tSeq (tAsg (tCall (spBegin K) [] X tr) (gName i)) ts) ρ .tt k := fun G H σ D gh en io f => hr G H σ gh en io _ fun vs G1 H1 g1 gh1 j1 dvs => by
  rw [List.append_nil]
  obtain ⟨v, rfl, h1⟩ := dva1 dvs
  cases h1 with
  | lst s r =>
    rename_i a xs
    obtain rfl := dpa_ints_inv ns xs r
    refine ⟨a, ns, G1, rfl, gh1, s, fun G2 H2 p C st ok gp hp k => ?_⟩
    exact h p C ok G2 H2 _ D st.gh (env_set (d := .r p) rfl (env_mono (g1.trans st.gg) en)) ⟨k, trivial⟩ (f.mono (g1.trans st.gg))
theorem s_beginT {ts : TS} {X : XK} {tr : TA} {ns : List Int} {i : Nat} {k : Out} (hr : A K tr ρ I [.d (.list (ns.map PyData.int))] I) (h : ∀ p C, DOk C → ¬ I.foot p → S K ts (ρ.set i (some (.r p))) (dJ K p C I) k) : S K (tSeq (tAsg (tCall (spBegin K) [] X tr) (gName i)) ts) ρ I k := fun G H σ D gh en io f => hr G H σ gh en io _ fun vs G1 H1 g1 gh1 j1 dvs => by
  rw [List.append_nil]
  obtain ⟨v, rfl, h1⟩ := dva1 dvs
  cases h1 with
  | lst s r =>
    rename_i a xs
    obtain rfl := dpa_ints_inv ns xs r
    refine ⟨a, ns, G1, rfl, gh1, s, fun G2 H2 p C st ok gp hp k => ?_⟩
    refine h p C ok (fun z => ?_) G2 H2 _ D st.gh (env_set (d := .r p) rfl (env_mono (g1.trans st.gg) en)) ⟨k, Asn.pure_st st j1⟩ (f.mono (g1.trans st.gg))
    obtain ⟨o, ho⟩ := I.own G1 H1 p j1 z
    rw [ho] at hp
    cases hp
theorem s_rtT {ts : TS} (h : S K ts ρ I (.rt d J)) : S K ts ρ I (.rt d .tt) := fun G H σ D gh en io f => h G H σ D gh en io fun v G2 H2 g2 gh2 _ dv => f v G2 H2 g2 gh2 trivial dv
end
theorem e_gcdI {i j : Int} {K : PySem.W.Frag} {ρ : Rho} {I J : Asn} {tr : TA} (hr : A K tr ρ I [.i i, .i j] J) : E K (tCB rGcd tr) ρ I (.i (Int.gcd i j : Nat)) J := e_gcd hr
theorem gcd_abs {x y : Int} : Int.gcd (x.natAbs : Int) y = Int.gcd x y := by simp [Int.gcd]
theorem cxK {CX : CXT} {P : Program} {w : World} {K : PySem.W.Frag} {mg : Str → Option Value} {base : Heap} {N : List Str} {q : Str} {sc : Scope} {f : Addr} {cd : Value} {A : Around} {o : List Env} {s : Shared} {H : Hp} {E : XK} :
    (cxOf CX P w K mg base N q sc f cd A o s H E).K = K := rfl
section
variable {K : PySem.W.Frag} {ρ ρ1 : Rho} {I : Asn} {ta tb tc te : TE} {d e : Dat} {t u : TT} {b c : Bool} {ts us : TS} {k : Out}
/-! ### the same where nothing changes -/
theorem p_cons {tr : TA} {ds : List Dat} (ha : E K ta ρ I d I) (hr : A K tr ρ I ds I) : A K (tCons ta tr) ρ I (d :: ds) I := a_cons ha hr
theorem p_f1 {a : F} (ha : E K ta ρ I (.d (fr a)) I) : E K (tOp (rIxT K) ta (tC (.int 0))) ρ I (.i a.1) I := e_f1 ha e_int
theorem p_f2 {a : F} (ha : E K ta ρ I (.d (fr a)) I) : E K (tOp (rIxT K) ta (tC (.int 1))) ρ I (.i a.2) I := e_f2 ha e_int
theorem p_add {i j : Int} (ha : E K ta ρ I (.i i) I) (hb : E K tb ρ I (.i j) I) : E K (tOp (rI0 fun i j => .int (i + j)) ta tb) ρ I (.i (i + j)) I := e_add ha hb
theorem p_sub {i j : Int} (ha : E K ta ρ I (.i i) I) (hb : E K tb ρ I (.i j) I) : E K (tOp (rI0 fun i j => .int (i - j)) ta tb) ρ I (.i (i - j)) I := e_sub ha hb
theorem p_mul {i j : Int} (ha : E K ta ρ I (.i i) I) (hb : E K tb ρ I (.i j) I) (hc : CMulW i j) : E K (tOp (rI CMulW fun i j => .int (i * j)) ta tb) ρ I (.i (i * j)) I := e_mul ha hb hc
theorem p_div {i j : Int} (ha : E K ta ρ I (.i i) I) (hb : E K tb ρ I (.i j) I) (hc : CDivW i j) : E K (tOp (rI CDivW fun i j => .int (i / j)) ta tb) ρ I (.i (i / j)) I := e_div ha hb hc
theorem p_mod {i j : Int} (ha : E K ta ρ I (.i i) I) (hb : E K tb ρ I (.i j) I) (hc : 0 < j) : E K (tOp (rI (fun _ j => 0 < j) fun i j => .int (i % j)) ta tb) ρ I (.i (i % j)) I := e_mod ha hb hc
theorem p_pow {i j : Int} (ha : E K ta ρ I (.i i) I) (hb : E K tb ρ I (.i j) I) (hc : CPow i j) : E K (tOp (rI CPow fun i j => .int (i ^ j.toNat)) ta tb) ρ I (.i (i ^ j.toNat)) I := e_pow ha hb hc
theorem p_lt {i j : Int} (ha : E K ta ρ I (.i i) I) (hb : E K tb ρ I (.i j) I) : E K (tOp (rI0 fun i j => .bl (decide (i < j))) ta tb) ρ I (.b (decide (i < j))) I := e_lt ha hb
theorem p_le {i j : Int} (ha : E K ta ρ I (.i i) I) (hb : E K tb ρ I (.i j) I) : E K (tOp (rI0 fun i j => .bl (decide (i ≤ j))) ta tb) ρ I (.b (decide (i ≤ j))) I := e_le ha hb
theorem p_gt {i j : Int} (ha : E K ta ρ I (.i i) I) (hb : E K tb ρ I (.i j) I) : E K (tOp (rI0 fun i j => .bl (decide (j < i))) ta tb) ρ I (.b (decide (j < i))) I := e_gt ha hb
theorem p_ge {i j : Int} (ha : E K ta ρ I (.i i) I) (hb : E K tb ρ I (.i j) I) : E K (tOp (rI0 fun i j => .bl (decide (j ≤ i))) ta tb) ρ I (.b (decide (j ≤ i))) I := e_ge ha hb
theorem p_eqI {i j : Int} (ha : E K ta ρ I (.i i) I) (hb : E K tb ρ I (.i j) I) : E K (tOp rEq ta tb) ρ I (.b (decide (i = j))) I := e_eqI ha hb
theorem p_neI {i j : Int} (ha : E K ta ρ I (.i i) I) (hb : E K tb ρ I (.i j) I) : E K (tOp rNe ta tb) ρ I (.b (!decide (i = j))) I := e_neI ha hb
theorem p_neg {i : Int} (ha : E K ta ρ I (.i i) I) : E K (tUn (rU fun i => .int (-i)) ta) ρ I (.i (-i)) I := e_neg ha
theorem p_gcd {i j : Int} {tr : TA} (hr : A K tr ρ I [.i i, .i j] I) : E K (tCB rGcd tr) ρ I (.i (Int.gcd i j : Nat)) I := e_gcd hr
theorem p_int1 {i : Int} {tr : TA} (hr : A K tr ρ I [.i i] I) : E K (tCB (fun xs H Q => (∃ i, xs = [.int i] ∧ Q (.int i) H) ∨ ∃ k, xs = [.bl k] ∧ Q (.int (if k then 1 else 0)) H) tr) ρ I (.i i) I := e_int1 hr
theorem p_abs {i : Int} {tr : TA} (hr : A K tr ρ I [.i i] I) : E K (tCB (fun xs H Q => ∃ i, xs = [.int i] ∧ Q (.int (if i < 0 then -i else i)) H) tr) ρ I (.i (i.natAbs : Nat)) I := e_abs hr
theorem p_len {ds : List PyData} {tr : TA} (hr : A K tr ρ I [.d (.list ds)] I) : E K (tCB (fun xs H Q => ∃ p ys, xs = [.ref p] ∧ (SqL K H p ys ∨ SqT K H p ys) ∧ Q (.int ys.length) H) tr) ρ I (.i (ds.length : Nat)) I := e_len hr
theorem p_lenT {ds : List PyData} {tr : TA} (hr : A K tr ρ I [.t ds] I) : E K (tCB (fun xs H Q => ∃ p ys, xs = [.ref p] ∧ (SqL K H p ys ∨ SqT K H p ys) ∧ Q (.int ys.length) H) tr) ρ I (.i (ds.length : Nat)) I := e_lenT hr
theorem p_ixT {ds : List PyData} {i : Int} {x : PyData} (ha : E K ta ρ I (.t ds) I) (hb : E K tb ρ I (.i i) I) (h : atI ds i = some x) : E K (tOp (rIxT K) ta tb) ρ I (.d x) I := e_ixT' ha hb h
theorem p_i0 {ds : List PyData} {x : PyData} (ha : E K ta ρ I (.t (x :: ds)) I) : E K (tOp (rIxT K) ta (tC (.int 0))) ρ I (.d x) I := e_ixT (j := 0) ha e_int rfl
theorem p_i1 {ds : List PyData} {x y : PyData} (ha : E K ta ρ I (.t (x :: y :: ds)) I) : E K (tOp (rIxT K) ta (tC (.int 1))) ρ I (.d y) I := e_ixT (j := 1) ha e_int rfl
theorem p_i2 {ds : List PyData} {x y z : PyData} (ha : E K ta ρ I (.t (x :: y :: z :: ds)) I) : E K (tOp (rIxT K) ta (tC (.int 2))) ρ I (.d z) I := e_ixT (j := 2) ha e_int rfl
theorem p_ixL {ds : List PyData} {i : Int} {x : PyData} (ha : E K ta ρ I (.d (.list ds)) I) (hb : E K tb ρ I (.i i) I) (h : atI ds i = some x) : E K (tOp (rIxL K) ta tb) ρ I (.d x) I := e_ixL' ha hb h
theorem p_call {T : List Addr} {R : List Dat → Dat → Prop} {X : XK} {tr : TA} {ds : List Dat} [HasT T I] (hr : A K tr ρ I ds I) (h : R ds d) : E K (tCall (spT K T R) [] X tr) ρ I d I := e_call hr h
theorem p_frac {tr : TA} {x y : Int} {a : F} (hr : A K tr ρ I [.i x, .i y] I) (h : a = (x, y)) : E K (tTup tr) ρ I (.d (fr a)) I := e_frac hr h
theorem p_tup {tr : TA} {ds : List Dat} {xs : List PyData} (hr : A K tr ρ I ds I) (hd : Ds ds xs) (hl : xs.length ≤ 100000) : E K (tTup tr) ρ I (.t xs) I := e_tup hr hd hl
theorem p_tup2 {tr : TA} {x y : PyData} (hr : A K tr ρ I [.d x, .d y] I) : E K (tTup tr) ρ I (.t [x, y]) I := e_tup hr (.cons (.cons .nil)) (show 2 ≤ 100000 by decide)
theorem p_asg {i : Nat} (h : E K te ρ I d I) : S K (tAsg te (gName i)) ρ I (.nx (ρ.set i (some d)) I) := s_asg h
theorem q_asg {i : Nat} (h : E K te ρ I d I) (h2 : S K us (ρ.set i (some d)) I k) : S K (tSeq (tAsg te (gName i)) us) ρ I k := s_seq (s_asg h) h2
theorem p_ret (h : E K te ρ I d I) : S K (tRet te) ρ I (.rt d I) := s_ret h
theorem p_par {i j : Nat} {tr : TA} (h : A K tr ρ I [d, e] I) : S K (tPar i j tr) ρ I (.nx ((ρ.set i (some d)).set j (some e)) I) := s_par h
theorem p_test (h : E K te ρ I (.b b) I) : T K (tTest te) ρ I b I := t_test h
theorem p_eqD {x y : PyData} (ha : E K ta ρ I (.d x) I) (hb : E K tb ρ I (.d y) I) (hx : SeqAt.shaped x = true) (hy : SeqAt.shaped y = true) : E K (tOp (rEqD K) ta tb) ρ I (.b (PyData.eqv x y)) I := e_eqD ha hb hx hy
theorem p_neD {x y : PyData} (ha : E K ta ρ I (.d x) I) (hb : E K tb ρ I (.d y) I) (hx : SeqAt.shaped x = true) (hy : SeqAt.shaped y = true) : E K (tOp (rNeD K) ta tb) ρ I (.b (!PyData.eqv x y)) I := e_neD ha hb hx hy
/-- an if by a test of known outcome; then what follows -/
theorem q_ifT {b : Bool} (h : T K t ρ I b I) (hb : b = true) (h2 : S K ts ρ I k) : S K (tIfS t ts us) ρ I k := s_ifT (hb ▸ h) h2
theorem q_ifF {b : Bool} (h : T K t ρ I b I) (hb : b = false) (h2 : S K us ρ I k) : S K (tIfS t ts us) ρ I k := s_ifF (hb ▸ h) h2
/-- an if without else that is not entered, ahead of the rest -/
theorem q_skip {b : Bool} {tr : TS} (h : T K t ρ I b I) (hb : b = false) (h2 : S K tr ρ I k) : S K (tSeq (tIfS t ts tNext) tr) ρ I k := s_seq (q_ifF h hb s_next) h2
/-- an if that returns, ahead of the rest -/
theorem q_out {b : Bool} {tr : TS} {J : Asn} (h : T K t ρ I b I) (hb : b = true) (h2 : S K ts ρ I (.rt d J)) : S K (tSeq (tIfS t ts us) tr) ρ I (.rt d J) := s_stop (q_ifT h hb h2)
variable {p : Addr} {C : DS} {J : Asn}
/-! ### the drawing list's items and stores -/
theorem d_ix0 (h : E K te ρ (dJ K p C J) (.r p) (dJ K p C J)) : E K (tOp (rIxL K) te (tC (.int 0))) ρ (dJ K p C J) (.d (.list (C.ns.map PyData.int))) (dJ K p C J) := e_dix (j := 0) h e_int rfl
theorem d_ix1 (h : E K te ρ (dJ K p C J) (.r p) (dJ K p C J)) : E K (tOp (rIxL K) te (tC (.int 1))) ρ (dJ K p C J) (.i (C.pos : Nat)) (dJ K p C J) := e_dix (j := 1) h e_int rfl
theorem d_ix2 (h : E K te ρ (dJ K p C J) (.r p) (dJ K p C J)) : E K (tOp (rIxL K) te (tC (.int 2))) ρ (dJ K p C J) (.i C.rest) (dJ K p C J) := e_dix (j := 2) h e_int rfl
theorem d_ix3 (h : E K te ρ (dJ K p C J) (.r p) (dJ K p C J)) : E K (tOp (rIxL K) te (tC (.int 3))) ρ (dJ K p C J) (.i C.seed) (dJ K p C J) := e_dix (j := 3) h e_int rfl
theorem d_set1 {n : Nat} {x : Int} (he : E K te ρ (dJ K p C J) (.i x) (dJ K p C J)) (hx : x = (n : Nat)) (h : E K ta ρ (dJ K p C J) (.r p) (dJ K p C J)) (hf : ¬ J.foot p) : S K (tAsg te (gSub ta (tC (.int 1)) rSetL)) ρ (dJ K p C J) (.nx ρ (dJ K p { C with pos := n } J)) := by
  subst hx
  exact s_dset (j := 1) (C' := { C with pos := n }) he h e_int (by decide) rfl ⟨rfl, rfl⟩ hf
theorem d_set2 {x : Int} (he : E K te ρ (dJ K p C J) (.i x) (dJ K p C J)) (h : E K ta ρ (dJ K p C J) (.r p) (dJ K p C J)) (hf : ¬ J.foot p) : S K (tAsg te (gSub ta (tC (.int 2)) rSetL)) ρ (dJ K p C J) (.nx ρ (dJ K p { C with rest := x } J)) :=
  s_dset (j := 2) (C' := { C with rest := x }) he h e_int (by decide) rfl ⟨rfl, rfl⟩ hf
theorem d_set3 {x : Int} (he : E K te ρ (dJ K p C J) (.i x) (dJ K p C J)) (h : E K ta ρ (dJ K p C J) (.r p) (dJ K p C J)) (hf : ¬ J.foot p) : S K (tAsg te (gSub ta (tC (.int 3)) rSetL)) ρ (dJ K p C J) (.nx ρ (dJ K p { C with seed := x } J)) :=
  s_dset (j := 3) (C' := { C with seed := x }) he h e_int (by decide) rfl ⟨rfl, rfl⟩ hf
theorem p_list {ds : List PyData} {tr : TA} (hr : A K tr ρ I [.d (.list ds)] I) : E K (tCB (fun xs H Q => ∃ p ys, xs = [.ref p] ∧ (SqL K H p ys ∨ SqT K H p ys) ∧ ∀ l, H l = none → Q (.ref l) (upd H l (.lst ys))) tr) ρ I (.d (.list ds)) I :=
  e_cb hr fun G H vs gh jo h Q q => by
    obtain ⟨v, rfl, h1⟩ := dva1 h
    cases h1 with
    | lst s r =>
      rename_i a xs
      refine ⟨_, _, rfl, .inl (gh.seq s), fun l hl => ?_⟩
      have st := Stp.new (o := .lst xs) gh hl
      exact q _ _ _ st.gg st.gh (Asn.pure_st st jo) (.lst (.inl (.inl upd_same)) (dp_monos st.gg ds _ r))
/-! ### the law's beginning -/
def seedF (s n : Int) : Int := (s * 69621 + n % 2147483629 + 7) % 2147483647
def seedAt (ns : List Int) : Nat → Int
  | 0 => 1
  | i + 1 => seedF (seedAt ns i) (ns.getD i 0)
theorem seed_ok (ns : List Int) (i : Nat) : 0 ≤ seedAt ns i ∧ seedAt ns i < 2147483647 := by
  cases i with
  | zero => exact ⟨(by decide : (0 : Int) ≤ 1), (by decide : (1 : Int) < 2147483647)⟩
  | succ i => exact ⟨Int.emod_nonneg _ (by decide), Int.emod_lt_of_pos _ (by decide)⟩
/-- what _law_begin leaves -/
def begP (K : PySem.W.Frag) (G0 H0 : Hp) (v : V) (G2 H2 : Hp) : Prop := ∃ p C, v = .ref p ∧ DOk C ∧ Stp NoA G0 H0 G2 H2 ∧ G2 p = none ∧ H0 p = none ∧ (dA K p C).ok G2 H2
theorem s_retBeg {G0 H0 : Hp} {tr : TA} {ns : List Int} {sd : Int} (hs : 0 ≤ sd ∧ sd < 2147483647) (hr : A K tr ρ (.since NoA G0 H0) [.d (.list (ns.map PyData.int)), .i 0, .i 0, .i sd] (.since NoA G0 H0)) : S K (tRet (tLst tr)) ρ (.since NoA G0 H0) (.fin (begP K G0 H0)) := fun G H σ D gh en io f => hr G H σ gh en io _ fun vs G1 H1 g1 gh1 j1 dvs => by
  match vs, dvs with
  | [v0, v1, v2, v3], ⟨h0, h1, h2, h3, _⟩ =>
    obtain rfl := dv_int h1
    obtain rfl := dv_int h2
    obtain rfl := dv_int h3
    cases h0 with
    | lst s r =>
      rename_i a xs
      obtain rfl := dpa_ints_inv ns xs r
      refine ⟨sz_of (show 4 ≤ 100000 by decide), fun p hp => ?_⟩
      have st := Stp.newM (o := HO.lst [.ref a, .int 0, .int 0, .int sd]) gh1 hp
      have gp : G1 p = none := gh1.free hp
      have hp0 : H0 p = none := by
        cases e : H0 p with
        | none => rfl
        | some u =>
          have j1' : Stp NoA G0 H0 G1 H1 := j1
          obtain ⟨x, hx⟩ := j1'.ex p u e
          rw [hx] at hp
          cases hp
      have j1' : Stp NoA G0 H0 G1 H1 := j1
      exact f _ G1 _ g1 st.gh ⟨p, ⟨a, ns, 0, 0, sd⟩, rfl, ⟨Int.le_refl _, hs⟩, j1'.trans st, gp, hp0, gp, upd_same, s⟩
theorem body_beg {ts : TS} {N : List Str} {vs : List V} {H : Hp} {Q : VK} {X : XK} (hb : ∀ (ns : List Int) G0 H0, S K ts (some (.d (.list (ns.map PyData.int))) :: List.replicate (N.length - 1) none) (.since NoA G0 H0) (.fin (begP K G0 H0))) (h : spBegin K vs H Q X) :
    ts { nx := fun _ H' => Q .non H', rt := Q } (L2.start N vs) H := by
  obtain ⟨a, ns, G, rfl, gh, s, q⟩ := h
  refine hb ns G H G H _ _ gh ?_ (Stp.refl gh) fun v G2 H2 g2 gh2 ⟨p, C, ev, ok, st, gp, hp, k⟩ => ?_
  · unfold L2.start
    exact env_start (vs := [.ref a]) (ds := [.d (.list (ns.map PyData.int))]) _ ⟨.lst s (dpa_ints ns), trivial⟩
  · subst ev
    exact q G2 H2 p C st ok gp hp k
end
/-! ### the law itself -/
def spLaw (K : PySem.W.Frag) : Sp := fun vs H Q _ => ∃ (a : Addr) (ns : List Int), vs = [.ref a] ∧ SqL K H a (ns.map V.int) ∧ ns.length ≤ 63 ∧ ∀ H', Q (.bl true) H'
theorem len_L {K : PySem.W.Frag} {vs : List V} {H : Hp} {Q : VK} {X : XK} (h : spLaw K vs H Q X) : vs.length = 1 := by
  obtain ⟨_, _, rfl, _⟩ := h
  rfl
theorem body_L {K : PySem.W.Frag} {ts : TS} {N : List Str} {vs : List V} {H : Hp} {Q : VK} {X : XK} (hb : ∀ ns : List Int, ns.length ≤ 63 → S K ts (some (.d (.list (ns.map PyData.int))) :: List.replicate (N.length - 1) none) .tt (.rt (.b true) .tt)) (h : spLaw K vs H Q X) :
    ts { nx := fun _ H' => Q .non H', rt := Q } (L2.start N vs) H := by
  obtain ⟨a, ns, rfl, s, hl, q⟩ := h
  refine hb ns hl H H _ _ (Same.refl _) ?_ trivial fun v G2 H2 g2 gh2 _ dv => ?_
  · unfold L2.start
    exact env_start (vs := [.ref a]) (ds := [.d (.list (ns.map PyData.int))]) _ ⟨.lst s (dpa_ints ns), trivial⟩
  · obtain rfl := dv_bl dv
    exact q H2
def spLawT (K : PySem.W.Frag) (T : List Addr) : Sp := fun vs H Q _ => ∃ (a : Addr) (ns : List Int), vs = [.ref a] ∧ SqL K H a (ns.map V.int) ∧ ns.length ≤ 63 ∧ TabsIn T H ∧ ∀ H', Q (.bl true) H'
theorem len_LT {K : PySem.W.Frag} {T : List Addr} {vs : List V} {H : Hp} {Q : VK} {X : XK} (h : spLawT K T vs H Q X) : vs.length = 1 := by
  obtain ⟨_, _, rfl, _⟩ := h
  rfl
theorem body_LT {K : PySem.W.Frag} {T : List Addr} {ts : TS} {N : List Str} {vs : List V} {H : Hp} {Q : VK} {X : XK} (hb : ∀ ns : List Int, ns.length ≤ 63 → S K ts (some (.d (.list (ns.map PyData.int))) :: List.replicate (N.length - 1) none) (.tab T) (.rt (.b true) .tt)) (h : spLawT K T vs H Q X) :
    ts { nx := fun _ H' => Q .non H', rt := Q } (L2.start N vs) H := by
  obtain ⟨a, ns, rfl, s, hl, tb, q⟩ := h
  refine hb ns hl H H _ _ (Same.refl _) ?_ tb fun v G2 H2 g2 gh2 _ dv => ?_
  · unfold L2.start
    exact env_start (vs := [.ref a]) (ds := [.d (.list (ns.map PyData.int))]) _ ⟨.lst s (dpa_ints ns), trivial⟩
  · obtain rfl := dv_bl dv
    exact q H2
/-- two vectors -/
def RVec2 (f : F → F → F) (ds : List Dat) (d : Dat) : Prop := ∃ a b x y : F, ds = [.t [fr a, fr b], .t [fr x, fr y]] ∧ Ok 4000 a ∧ Ok 4000 b ∧ Ok 4000 x ∧ Ok 4000 y ∧ d = .t [fr (f a x), fr (f b y)]
theorem RVec2.len {f : F → F → F} {ds : List Dat} {d : Dat} (h : RVec2 f ds d) : ds.length = 2 := by
  obtain ⟨_, _, _, _, rfl, _⟩ := h
  rfl
theorem RVec2.mk {f : F → F → F} {a b x y : F} {m n : Nat} (ha : Ok m a) (hb : Ok m b) (hx : Ok n x) (hy : Ok n y) (hm : m ≤ 4000 := by omega) (hn : n ≤ 4000 := by omega) : RVec2 f [.t [fr a, fr b], .t [fr x, fr y]] (.t [fr (f a x), fr (f b y)]) := ⟨a, b, x, y, rfl, ha.mono hm, hb.mono hm, hx.mono hn, hy.mono hn, rfl⟩
theorem shaped_fr (a : F) : SeqAt.shaped (fr a) = true := rfl
theorem shaped_v (a b : F) : SeqAt.shaped (.tuple [fr a, fr b]) = true := rfl
theorem eqv_fr (a : F) : PyData.eqv (fr a) (fr a) = true := by simp [PyData.eqv, PyData.eqvAll]
theorem eqv_v (a b : F) : PyData.eqv (.tuple [fr a, fr b]) (.tuple [fr a, fr b]) = true := by simp [PyData.eqv, PyData.eqvAll]
end PL

namespace PL
open PySem PySem.Spec PyProof.Rows L2 FR

/-! ### defs that may raise -/
inductive Res where
  | ok (d : Dat)
  | err (C : Addr)
def RPost (K : PySem.W.Frag) (G H : Hp) (Q : VK) (X : XK) : Res → Prop
  | .ok d => ∀ v G2 H2, Stp NoA G H G2 H2 → Dv K G2 v d → Q v H2
  | .err C => ∀ G2 H2, Stp NoA G H G2 H2 → X (.ref C) none H2
def spXT (K : PySem.W.Frag) (T : List Addr) (R : List Dat → Res → Prop) : Sp := fun vs H Q X => ∃ G ds r, Same G H ∧ DvAll K G vs ds ∧ R ds r ∧ TabsIn T G ∧ RPost K G H Q X r
abbrev spX (K : PySem.W.Frag) (R : List Dat → Res → Prop) : Sp := spXT K [] R
def outR (I : Asn) : Res → Out
  | .ok d => .rt d I
  | .err _ => .fin fun _ _ _ => False
section
variable {K : PySem.W.Frag} {ρ ρ1 : Rho} {I J L N : Asn} {ta tb tc te : TE} {d e : Dat} {t u : TT} {b c : Bool} {ts us : TS} {k : Out} {R : List Dat → Res → Prop} {tr : TA} {ds : List Dat} {tabs : List Addr}
theorem len_X {n : Nat} (hl : ∀ ds r, R ds r → ds.length = n) {vs : List V} {H : Hp} {Q : VK} {X : XK} (h : spXT K tabs R vs H Q X) : vs.length = n := by
  obtain ⟨G, ds, r, gh, dvs, hr, _, q⟩ := h
  rw [dva_len dvs, hl ds r hr]
theorem e_callX {X : XK} [hT : HasT tabs J] (hr : A K tr ρ I ds J) (h : R ds (.ok d)) : E K (tCall (spXT K tabs R) [] X tr) ρ I d J := fun G H σ gh en io Q q => hr G H σ gh en io _ fun vs G1 H1 g1 gh1 j1 dvs => by
  rw [List.append_nil]
  exact ⟨G1, ds, .ok d, gh1, dvs, h, hT.get _ _ j1, fun v G2 H2 s dv => q v G2 H2 (g1.trans s.gg) s.gh (Asn.pure_st s j1) dv⟩
/-- a call that raises: nothing behind it is looked at -/
theorem e_callE {X : XK} {C : Addr} [hT : HasT tabs J] (hr : A K tr ρ I ds J) (h : R ds (.err C)) (hx : ∀ G H, J.ok G H → X (.ref C) none H) : E K (tCall (spXT K tabs R) [] X tr) ρ I d L := fun G H σ gh en io Q q => hr G H σ gh en io _ fun vs G1 H1 g1 gh1 j1 dvs => by
  rw [List.append_nil]
  exact ⟨G1, ds, .err C, gh1, dvs, h, hT.get _ _ j1, fun G2 H2 s => hx G2 H2 (Asn.pure_st s j1)⟩
theorem body_XT {N : List Str} {vs : List V} {H : Hp} {Q : VK} {X : XK} (hb : ∀ ds r, R ds r → ∀ I : Asn, HasT tabs I → (∀ C, r = .err C → ∀ G H, I.ok G H → X (.ref C) none H) → S K ts (ds.map some ++ List.replicate (N.length - ds.length) none) I (outR I r)) (h : spXT K tabs R vs H Q X) :
    ts { nx := fun _ H' => Q .non H', rt := Q } (L2.start N vs) H := by
  obtain ⟨G, ds, r, gh, dvs, hr, tb, q⟩ := h
  have en : EnvD K G (L2.start N vs) (ds.map some ++ List.replicate (N.length - ds.length) none) := by
    unfold L2.start
    rw [dva_len dvs]
    exact env_start _ dvs
  cases r with
  | ok d => exact hb ds _ hr ((Asn.since NoA G H).and (Asn.tab tabs)) inferInstance (fun C z => by cases z) G H _ _ gh en ⟨Stp.refl gh, tb⟩ fun v G2 H2 g2 gh2 j2 dv => q v G2 H2 j2.1 dv
  | err C =>
    refine hb ds _ hr ((Asn.since NoA G H).and (Asn.tab tabs)) inferInstance (fun C' z G2 H2 j2 => ?_) G H _ _ gh en ⟨Stp.refl gh, tb⟩ fun v G2 H2 g2 gh2 z => z.elim
    cases z
    exact q G2 H2 j2.1
theorem body_X {N : List Str} {vs : List V} {H : Hp} {Q : VK} {X : XK} (hb : ∀ ds r, R ds r → ∀ I : Asn, (∀ C, r = .err C → ∀ G H, I.ok G H → X (.ref C) none H) → S K ts (ds.map some ++ List.replicate (N.length - ds.length) none) I (outR I r)) (h : spX K R vs H Q X) :
    ts { nx := fun _ H' => Q .non H', rt := Q } (L2.start N vs) H := body_XT (fun ds r hr I _ => hb ds r hr I) h
/-- a def that ends without a return -/
theorem body_XNT {N : List Str} {vs : List V} {H : Hp} {Q : VK} {X : XK} (hb : ∀ ds r, R ds r → ∀ I : Asn, HasT tabs I → (∀ C, r = .err C → ∀ G H, I.ok G H → X (.ref C) none H) →
      (r = .ok (.d .none) ∧ ∃ ρ1, S K ts (ds.map some ++ List.replicate (N.length - ds.length) none) I (.nx ρ1 I)) ∨ (∃ C, r = .err C ∧ ∀ k, S K ts (ds.map some ++ List.replicate (N.length - ds.length) none) I k)) (h : spXT K tabs R vs H Q X) :
    ts { nx := fun _ H' => Q .non H', rt := Q } (L2.start N vs) H := by
  obtain ⟨G, ds, r, gh, dvs, hr, tb, q⟩ := h
  have en : EnvD K G (L2.start N vs) (ds.map some ++ List.replicate (N.length - ds.length) none) := by
    unfold L2.start
    rw [dva_len dvs]
    exact env_start _ dvs
  have hx : ∀ C, r = .err C → ∀ G2 H2, ((Asn.since NoA G H).and (Asn.tab tabs)).ok G2 H2 → X (.ref C) none H2 := fun C z G2 H2 j2 => by
    subst z
    exact q G2 H2 j2.1
  rcases hb ds r hr ((Asn.since NoA G H).and (Asn.tab tabs)) inferInstance hx with ⟨rfl, ρ1, hs⟩ | ⟨C, rfl, hk⟩
  · exact hs G H _ _ gh en ⟨Stp.refl gh, tb⟩ fun G2 H2 σ2 g2 gh2 en2 j2 => q .non G2 H2 j2.1 .non
  · exact hk (.fin fun _ _ _ => False) G H _ _ gh en ⟨Stp.refl gh, tb⟩ fun v G2 H2 g2 gh2 z => z.elim
theorem body_XN {N : List Str} {vs : List V} {H : Hp} {Q : VK} {X : XK} (hb : ∀ ds r, R ds r → ∀ I : Asn, (∀ C, r = .err C → ∀ G H, I.ok G H → X (.ref C) none H) →
      (r = .ok (.d .none) ∧ ∃ ρ1, S K ts (ds.map some ++ List.replicate (N.length - ds.length) none) I (.nx ρ1 I)) ∨ (∃ C, r = .err C ∧ ∀ k, S K ts (ds.map some ++ List.replicate (N.length - ds.length) none) I k)) (h : spX K R vs H Q X) :
    ts { nx := fun _ H' => Q .non H', rt := Q } (L2.start N vs) H := body_XNT (fun ds r hr I _ => hb ds r hr I) h
/-- raise X(..) -/
theorem s_raise {C : Addr} {W : WX} (h : ∀ G H σ, Same G H → I.ok G H → W (.ref C) none σ H) : S K (fun _ σ H => (fun (_ : L2.St) (H : Hp) (Q : XK) => Q (.ref C) none H) σ H fun cls d H' => W cls d σ H') ρ I k :=
  fun G H σ D gh en io f => h G H σ gh io
theorem s_raise' (h : ∀ G H σ (D : Ends), Same G H → I.ok G H → ts D σ H) : S K ts ρ I k := fun G H σ D gh en io f => h G H σ D gh io
/-- a statement that raises, whatever follows -/
theorem s_dropE (h : E K te ρ I d L) (hL : ∀ G H, ¬ L.ok G H) : S K (tDrop te) ρ I k := fun G H σ D gh en io f => h G H σ gh en io _ fun v G1 H1 g1 gh1 j1 dv => absurd j1 (hL G1 H1)
theorem s_seqE {L : Asn} {ρ1 : Rho} (h : S K ts ρ I (.nx ρ1 L)) (hL : ∀ G H, ¬ L.ok G H) : S K (tSeq ts us) ρ I k := fun G H σ D gh en io f => h G H σ _ gh en io fun G1 H1 σ1 g1 gh1 en1 j1 => absurd j1 (hL G1 H1)
def Asn.no : Asn := ⟨NoA, fun _ _ => False, fun _ _ _ _ _ _ _ h => h, fun _ _ _ z => z.elim⟩
/-- an if that raises, ahead of the rest -/
theorem s_err (h : S K ts ρ I (.fin fun _ _ _ => False)) : S K (tSeq ts us) ρ I (.fin fun _ _ _ => False) := fun G H σ D gh en io f => h G H σ _ gh en io f
/-- try: x = f(..) that hands back | that raises -/
theorem s_tryOk {i : Nat} {wf : Ends → WX} [hT : HasT tabs J] (hr : A K tr ρ I ds J) (h : R ds (.ok d)) : S K (fun D σ H => (tAsg (tCallS (spXT K tabs R) (WE (wf D)) tr) (gName i)) D σ H) ρ I (.nx (ρ.set i (some d)) J) := fun G H σ D gh en io f =>
  hr G H σ gh en io _ fun vs G1 H1 g1 gh1 j1 dvs => ⟨G1, ds, .ok d, gh1, dvs, h, hT.get _ _ j1, fun v G2 H2 s dv => f G2 H2 _ (g1.trans s.gg) s.gh (env_set dv (env_mono (g1.trans s.gg) en)) (Asn.pure_st s j1)⟩
theorem s_tryErr {i : Nat} {C : Addr} {c : Value} {tsu : Addr → Value → Option Addr → TS} {Wout : WX} [hT : HasT tabs J] (hr : A K tr ρ I ds J) (h : R ds (.err C)) (he : PySem.W.exmOne K (.ref C) c = some true) (hs : ∀ a, S K (tsu a (.ref C) none) ρ J k) :
    S K (fun D σ H => (tAsg (tCallS (spXT K tabs R) (WE (wOnly K c tsu Wout D)) tr) (gName i)) D σ H) ρ I k := fun G H σ D gh en io f =>
  hr G H σ gh en io _ fun vs G1 H1 g1 gh1 j1 dvs => ⟨G1, ds, .err C, gh1, dvs, h, hT.get _ _ j1, fun G2 H2 s => ⟨true, he, fun _ a na => hs a G2 H2 σ D s.gh (env_mono (g1.trans s.gg) en) (Asn.pure_st s j1) (f.mono (g1.trans s.gg)), fun z => nomatch z⟩⟩
theorem s_tryErrAs {i j : Nat} {C : Addr} {c : Value} {tsu : Addr → Value → Option Addr → TS} {Wout : WX} [hT : HasT tabs J] (hr : A K tr ρ I ds J) (h : R ds (.err C)) (he : PySem.W.exmOne K (.ref C) c = some true) (hs : ∀ a, S K (tsu a (.ref C) none) (ρ.set j (some (.r a))) J (.rt d L)) :
    S K (fun D σ H => (tAsg (tCallS (spXT K tabs R) (WE (wAs K c j tsu Wout D)) tr) (gName i)) D σ H) ρ I (.rt d L) := fun G H σ D gh en io f =>
  hr G H σ gh en io _ fun vs G1 H1 g1 gh1 j1 dvs => ⟨G1, ds, .err C, gh1, dvs, h, hT.get _ _ j1, fun G2 H2 s => ⟨true, he, fun _ a na => hs a G2 H2 _ _ s.gh (env_set (d := .r a) rfl (env_mono (g1.trans s.gg) en)) (Asn.pure_st s j1) fun v G3 H3 g3 => f v G3 H3 ((g1.trans s.gg).trans g3), fun z => nomatch z⟩⟩
/-! ### isinstance -/
theorem e_isI {i : Int} {n : String} (h : kitB "int" n = some b) (ha : E K ta ρ I (.i i) J) : E K (tCB (rIsi K) (tCons ta (tCons (tC (.ty n)) tNil))) ρ I (.b b) J := fun G H σ gh en io Q q =>
  ha G H σ gh en io _ fun x G1 H1 g1 gh1 j1 dx => by
    obtain rfl := dv_int dx
    exact ⟨.int i, .ty n, .type "int", .type n, b, rfl, .ty n, .base (.int i), kit_ty h, q _ G1 H1 g1 gh1 j1 (.bl b)⟩
theorem tyx_t {H : Hp} {a : Addr} {xs : List V} (h : SqT K H a xs) : TyX K H (.ref a) (.type "tuple") := by
  rcases h with (h | ⟨o, h⟩) | ⟨o, its, n, h, hc, _⟩
  · exact .base (.tup h)
  · exact .fTuple h
  · exact .kTuple h hc
theorem e_isT {xs : List PyData} {n : String} (h : kitB "tuple" n = some b) (ha : E K ta ρ I (.t xs) J) : E K (tCB (rIsi K) (tCons ta (tCons (tC (.ty n)) tNil))) ρ I (.b b) J := fun G H σ gh en io Q q =>
  ha G H σ gh en io _ fun x G1 H1 g1 gh1 j1 dx => by
    cases dx with
    | tup s r => exact ⟨_, .ty n, .type "tuple", .type n, b, rfl, .ty n, tyx_t (same_t gh1 s), kit_ty h, q _ G1 H1 g1 gh1 j1 (.bl b)⟩
/-- isinstance(e, D) within an except suite -/
def tIsE (K : PySem.W.Frag) (a : Addr) (cls : Value) (dd : Option Addr) (D : Addr) (te : TE) : TE := fun σ H Q => te σ H fun x H1 => [x, V.ref D] = [V.ref a, V.ref D] ∧ cls = .ref D ∧ dd = none ∧ PySem.W.kitOne K (.ref D) (.ref D) = some true ∧ Q (.bl true) H1
theorem e_isE {a D : Addr} (ha : E K te ρ I (.r a) J) (hk : PySem.W.kitOne K (.ref D) (.ref D) = some true) : E K (tIsE K a (.ref D) none D te) ρ I (.b true) J := fun G H σ gh en io Q q => ha G H σ gh en io _ fun x G1 H1 g1 gh1 j1 dx => ⟨by rw [show x = V.ref a from dx], rfl, rfl, hk, q _ G1 H1 g1 gh1 j1 (.bl true)⟩
end
section
variable {X : Cx} {a D : Addr} {oe : Obj} {pn : List (Addr × Obj)} {cls : Value} {dd : Option Addr} {x y : Str} {p p2 pos : Pos} {e : Expr} {te : TE}
theorem pe_isE (C : ExcC X.K D) (hz : Zc cls dd oe) (hf : ∃ vs, oe.data = .fields vs) (he : PE (X.suite a ((a, oe) :: pn)) e te) (hg : Gl X ("isinstance" : Str)) (hm : X.mg "isinstance" = none) (hgy : Gl X y) (hmy : X.mg y = some (.ref D))
    (hdb : (y == ("__debug__" : Str)) = false := by decide)
    (hse : starEach [e, .Name y p2] X.env = (false, eval e X.env) :: starEach [.Name y p2] X.env := by rfl) (hpl : (backTo pos (starEach [.Name y p2] X.env)).any (·.1) = false := by rfl) :
    PE (X.suite a ((a, oe) :: pn)) (.Call (.Name "isinstance" p) [e, .Name y p2] [] pos) (tIsE X.K a cls dd D te) := by
  refine ⟨fun pins s σ H Q I h => ?_⟩
  -- the exception's class and dict are told behind e
  refine wpAny_Call_Name_kw (ld_blt (X := X.suite a ((a, oe) :: pn)) I hg hm (show bootBuiltins "isinstance" = some (.builtin "isinstance") by decide +kernel) ?_)
  refine PyProof.Rows.callWith_builtin1 ?_ hse hpl
  have pa : PA (X.suite a ((a, oe) :: pn)) [e, .Name y p2] (tCons te (tCons (tC (.ref D)) tNil)) := pa_cons he (pa_cons (pe_glob hgy hmy rfl hdb) pa_nil rfl) hse
  refine thn (pa.run pos pins s σ H (fun vs H1 => vs = [.ref a, .ref D] ∧ cls = .ref D ∧ dd = none ∧ PySem.W.kitOne X.K (.ref D) (.ref D) = some true ∧ Q (.bl true) H1) I ?_) fun us s1 ⟨vs, H1, I1, r1, q1⟩ => ?_
  · exact h
  · obtain ⟨rfl, rfl, rfl, hk, q⟩ := q1
    exact call_isE C hz hf pins s1 σ H1 _ us Q I1 r1 ⟨.ref D, .ref D, true, rfl, fun u h => h, hk, q⟩
end
/-! ### lists that may change -/
section
variable {K : PySem.W.Frag} {ρ ρ1 : Rho} {I J L N : Asn} {ta tb tc te : TE} {d e : Dat} {t u : TT} {b c : Bool} {ts us : TS} {k : Out} {tr : TA} {q : Addr} {ds : List PyData} {x : PyData}
theorem s_pre {I' : Asn} (h : ∀ G H, I.ok G H → I'.ok G H) (hs : S K ts ρ I' k) : S K ts ρ I k := fun G H σ D gh en io f => hs G H σ D gh en (h G H io) f
theorem s_post {J' : Asn} (h : ∀ G H, J.ok G H → J'.ok G H) (hs : S K ts ρ I (.nx ρ1 J)) : S K ts ρ I (.nx ρ1 J') := fun G H σ D gh en io f => hs G H σ D gh en io fun G2 H2 σ2 a b c j => f G2 H2 σ2 a b c (h G2 H2 j)
def lA (K : PySem.W.Frag) (q : Addr) (ds : List PyData) : Asn := ⟨(· = q), fun G H => G q = none ∧ ∃ vs, H q = some (.lst vs) ∧ DpAll K G vs ds, fun M G H G2 H2 n s ⟨g, vs, h, r⟩ => ⟨s.fr q _ (n q rfl) h g, vs, s.hh q _ (n q rfl) h, dp_monos s.gg ds vs r⟩, fun G H a ⟨_, vs, h, _⟩ (z : a = q) => ⟨.lst vs, by rw [z]; exact h⟩⟩
abbrev lJ (K : PySem.W.Frag) (q : Addr) (ds : List PyData) (J : Asn) : Asn := (lA K q ds).and J
theorem Stp.frz {G H : Hp} {o : HO} (gh : Same G H) (gq : G q = none) (hq : H q = some o) : Stp (· = q) G H (upd G q o) H := by
  refine ⟨same_new gq, fun a u e => ?_, fun _ _ _ e => .of e, fun a o n e g => ?_, fun a o e => ⟨o, e⟩⟩
  · by_cases z : a = q
    · subst z
      rw [upd_same] at e
      rw [hq]
      exact .of e
    · rw [upd_ne z] at e
      exact gh a u e
  · rw [upd_ne n]
    exact g
/-- x = [] -/
theorem s_newL {i : Nat} (h : ∀ q, ¬ I.foot q → S K us (ρ.set i (some (.r q))) (lJ K q [] I) k) : S K (tSeq (tAsg (tLst tNil) (gName i)) us) ρ I k := fun G H σ D gh en io f =>
  ⟨Nat.zero_le _, fun p hp => by
    have s := Stp.newM (o := HO.lst []) gh hp
    have gp : G p = none := gh.free hp
    refine h p (fun z => ?_) G _ _ D s.gh (env_set (d := .r p) rfl en) ⟨⟨gp, [], upd_same, .nil⟩, Asn.pure_st s io⟩ f
    obtain ⟨o, ho⟩ := I.own G H p io z
    rw [ho] at hp
    cases hp⟩
/-- x.append(e) -/
theorem s_app {i : Nat} (he : E K te ρ (lJ K q ds J) (.d x) (lJ K q ds J)) (hi : ρ[i]? = some (some (.r q))) (hl : ds.length < 100000) (hf : ¬ J.foot q) : S K (tDrop (tBM K "list" rAppend (tVar i) (tCons te tNil))) ρ (lJ K q ds J) (.nx ρ (lJ K q (ds ++ [x]) J)) := fun G H σ D gh en io f => by
  obtain ⟨v, hv, rfl⟩ := env_get en hi
  have io' := io
  obtain ⟨⟨gq, vs, hq, r⟩, jo⟩ := io
  refine ⟨.ref q, hv, .inl ⟨rfl, _, .inl (.inl hq)⟩, he G H σ gh en io' _ fun v G1 H1 g1 gh1 j1 dv => ?_⟩
  obtain ⟨⟨gq1, vs1, hq1, r1⟩, jo1⟩ := j1
  have s := Stp.store (o := HO.lst (vs1 ++ [v])) gh1 gq1 hq1
  refine ⟨q, vs1, v, rfl, rfl, hq1, ?_, ?_⟩
  · rw [dpa_len r1]
    exact Nat.lt_of_lt_of_le hl (by decide)
  · exact f G1 _ σ g1 s.gh (env_mono g1 en) ⟨⟨gq1, _, upd_same, dpa_app r1 (.cons dv .nil)⟩, J.st _ _ _ _ _ (fun a fa (z : a = q) => hf (z ▸ fa)) s jo1⟩
theorem env_put {G : Hp} {i : Nat} (hx : Dp K G (.ref q) x) : ∀ {σ : List (Option V)} {ρ : Rho} {i : Nat}, EnvD K G σ ρ → ρ[i]? = some (some (.r q)) → EnvD K G σ (ρ.set i (some (.d x)))
  | [], [], _, _, e => by simp at e
  | s :: _, o :: _, 0, h, e => by
    have eo : o = some (.r q) := by simpa using e
    obtain ⟨h1, h2⟩ := h
    rw [eo] at h1
    obtain ⟨v, h3, h4⟩ := h1
    exact ⟨⟨v, h3, by rw [show v = V.ref q from h4]; exact hx⟩, h2⟩
  | _ :: σ, _ :: ρ, i + 1, h, e => ⟨h.1, env_put hx (i := i) h.2 (by simpa using e)⟩
  | [], _ :: _, _, h, _ => h.elim
  | _ :: _, [], _, h, _ => h.elim
/-- the list at q changes no more -/
theorem s_freeze {i : Nat} (hi : ρ[i]? = some (some (.r q))) (hf : ¬ J.foot q) (hs : S K ts (ρ.set i (some (.d (.list ds)))) J k) : S K ts ρ (lJ K q ds J) k := fun G H σ D gh en io f => by
  obtain ⟨⟨gq, vs, hq, r⟩, jo⟩ := io
  have s : Stp (· = q) G H (upd G q (.lst vs)) H := Stp.frz gh gq hq
  refine hs (upd G q (.lst vs)) H σ D s.gh (env_put (x := .list ds) (i := i) (.lst (.inl (.inl upd_same)) (dp_monos s.gg ds vs r)) (env_mono s.gg en) hi) (J.st _ _ _ _ _ (fun a fa (z : a = q) => hf (z ▸ fa)) s jo) (f.mono s.gg)
/-! ### comprehensions -/
theorem env_none {G : Hp} : ∀ {σ : List (Option V)} {ρ : Rho} {i : Nat}, EnvD K G σ ρ → EnvD K G (σ.set i none) (ρ.set i none)
  | [], [], _, _ => trivial
  | _ :: _, _ :: _, 0, h => ⟨trivial, h.2⟩
  | _ :: σ, _ :: ρ, i + 1, h => ⟨h.1, env_none (i := i) h.2⟩
  | [], _ :: _, _, h => h.elim
  | _ :: _, [], _, h => h.elim
theorem e_lc {tl : TE} {es : List PyData} {j : Nat} (hl : E K tl ρ I (.d (.list ds)) I) (hn : es.length = ds.length) (hz : ds.length ≤ 100000)
    (he : ∀ (i : Nat) x y, ds[i]? = some x → es[i]? = some y → ∀ I, E K te ((ρ.set j none).set j (some (.d x))) I (.d y) I) : E K (tLc (iList K tl) (gName j) tYes te [j]) ρ I (.d (.list es)) I := fun G H σ gh en io Q q =>
  hl G H σ gh en io _ fun v G1 H1 g1 gh1 j1 dv => by
    cases dv with
    | lst s r =>
      rename_i a xs
      refine ⟨a, rfl, ⟨_, gh1.seq s⟩, fun D hD => ?_⟩
      have gD : G1 D = none := gh1.free hD
      have lx := dpa_len r
      have nD : ∀ a, I.foot a → ¬ a = D := fun a fa z => by
        obtain ⟨o, ho⟩ := I.own G1 H1 a j1 fa
        rw [z, hD] at ho
        cases ho
      refine lc_list (xs := xs) (fun i H' => ∃ G', Same G1 G' ∧ Same G' H' ∧ I.ok G' H' ∧ (lA K D (es.take i)).ok G' H' ∧ Stp (· = D) G1 (upd H1 D (.lst [])) G' H') ?_ (fun i H' _ ⟨G', a1, a2, _⟩ => (a1.trans a2).seq s) (fun i x H' hx ⟨G', a1, a2, a3, a4, a5⟩ => ?_) (fun H' ⟨G', a1, a2, a3, a4, a5⟩ => ?_)
      · have st := Stp.newM (o := HO.lst []) gh1 hD
        exact ⟨G1, Same.refl _, st.gh, Asn.pure_st st j1, ⟨gD, [], upd_same, .nil⟩, Stp.refl st.gh⟩
      · have hi : i < xs.length := (List.getElem?_eq_some_iff.mp hx).1
        have hi2 : i < ds.length := by omega
        have hi3 : i < es.length := by omega
        obtain ⟨w, h1, h2⟩ := dpa_get r (List.getElem?_eq_getElem hi2)
        rw [hx] at h1
        obtain rfl := Option.some.inj h1
        refine ⟨by simp [wipe], ?_⟩
        refine he i _ _ (List.getElem?_eq_getElem hi2) (List.getElem?_eq_getElem hi3) (((lA K D (es.take i)).and I).and (Asn.since (· = D) G1 (upd H1 D (.lst [])))) G' H' _ a2 (env_set (d := .d _) (dp_mono a1 _ _ h2) (env_none (env_mono (g1.trans a1) en))) ⟨⟨a4, a3⟩, a5⟩ _ fun y G2 H2 g2 gh2 j2 dy => ?_
        obtain ⟨⟨⟨gq, vs, hq, r2⟩, i2⟩, st2⟩ := j2
        have st := Stp.store (o := HO.lst (vs ++ [y])) gh2 gq hq
        refine ⟨vs, hq, ?_, G2, a1.trans g2, st.gh, ?_, ⟨gq, _, upd_same, ?_⟩, st2.trans st⟩
        · rw [dpa_len r2, List.length_take]
          exact Nat.lt_of_le_of_lt (Nat.min_le_left _ _) (Nat.lt_of_le_of_lt (show i ≤ 100000 by omega) (by decide))
        · exact I.st _ _ _ _ _ nD st i2
        · rw [List.take_add_one, List.getElem?_eq_getElem hi3]
          exact dpa_app r2 (.cons dy .nil)
      · obtain ⟨gq, vs, hq, r2⟩ := a4
        have st : Stp (· = D) G' H' (upd G' D (.lst vs)) H' := Stp.frz a2 gq hq
        refine q _ (upd G' D (.lst vs)) H' ((g1.trans a1).trans st.gg) st.gh (I.st _ _ _ _ _ nD st a3) (.lst (.inl (.inl upd_same)) (dp_monos st.gg _ vs ?_))
        rw [show es = es.take xs.length by rw [List.take_of_length_le (by omega)]]
        exact r2
theorem dpa_bools : ∀ (bs : List Bool) (xs : List V) {G : Hp}, DpAll K G xs (bs.map PyData.bool) → xs = bs.map V.bl
  | [], _, _, r => by
    cases r
    rfl
  | n :: ns, _, _, r => by
    cases r with
    | cons r1 r2 =>
      cases r1
      rw [dpa_bools ns _ r2, List.map_cons]
theorem e_any {bs : List Bool} (hr : A K tr ρ I [.d (.list (bs.map PyData.bool))] J) : E K (tCB (rAny K) tr) ρ I (.b (bs.any id)) J :=
  e_cb hr fun G H vs gh jo h Q q => by
    obtain ⟨v, rfl, h1⟩ := dva1 h
    cases h1 with
    | lst s r =>
      obtain rfl := dpa_bools bs _ r
      exact ⟨_, bs, rfl, gh.seq s, q _ G H (Same.refl _) gh jo (.bl _)⟩
theorem e_notIn {y : PyData} (ha : E K ta ρ I (.d y) J) (hb : E K tb ρ J (.d (.list ds)) L) (hx : SeqAt.shaped y = true) (hy : SeqAt.shaped (.list ds) = true) : E K (tOp (rNotInD K) ta tb) ρ I (.b (!ds.any fun z => PyData.eqv z y)) L :=
  e_op ha hb fun G H a b gh lo dx dy Q q => ⟨y, ds, dp_mono gh _ _ dx, dp_mono gh _ _ dy, hx, hy, q _ G H (Same.refl _) gh lo (.bl _)⟩
abbrev rTupOf (K : PySem.W.Frag) : List V → Hp → VK → Prop := fun xs H Q => ∃ p ys, xs = [.ref p] ∧ ((SqL K H p ys ∧ ∀ l, H l = none → Q (.ref l) (upd H l (.tup ys))) ∨ (SqT K H p ys ∧ Q (.ref p) H))
theorem e_tupOf (hr : A K tr ρ I [.d (.list ds)] J) : E K (tCB (fun xs H Q => ∃ p ys, xs = [.ref p] ∧ ((SqL K H p ys ∧ ∀ l, H l = none → Q (.ref l) (upd H l (.tup ys))) ∨ (SqT K H p ys ∧ Q (.ref p) H))) tr) ρ I (.t ds) J :=
  e_cb hr fun G H vs gh jo h Q q => by
    obtain ⟨v, rfl, h1⟩ := dva1 h
    cases h1 with
    | lst s r =>
      rename_i a xs
      refine ⟨_, _, rfl, .inl ⟨gh.seq s, fun l hl => ?_⟩⟩
      have st := Stp.new (o := .tup xs) gh hl
      exact q _ _ _ st.gg st.gh (Asn.pure_st st jo) (.tup (.inl (.inl upd_same)) (dp_monos st.gg ds _ r))
theorem s_forT {tl : TE} {j : Nat} (P : Nat → Rho) (V : Nat → Asn) (hl : E K tl ρ I (.t ds) (V 0)) (h0 : ρ = P 0)
    (turn : ∀ i x, ds[i]? = some x → S K ts ((P i).set j (some (.d x))) (V i) (.nx (P (i + 1)) (V (i + 1)))) : S K (tFor (iTup K tl) (gName j) ts) ρ I (.nx (P ds.length) (V ds.length)) := fun G H σ D gh en io f => by
  refine hl G H σ gh en io _ fun v G1 H1 g1 gh1 j1 dv => ?_
  cases dv with
  | tup s r =>
    rename_i a xs
    subst h0
    refine ⟨a, rfl, ⟨_, same_t gh1 s⟩, for_tup (xs := xs) (fun i σ' H' => ∃ G', Same G1 G' ∧ Same G' H' ∧ EnvD K G' σ' (P i) ∧ (V i).ok G' H') ⟨G1, Same.refl _, gh1, env_mono g1 en, j1⟩ (fun i σ' H' _ ⟨G', a1, a2, _⟩ => same_t (a1.trans a2) s) (fun i x σ' H' hx ⟨G', a1, a2, a3, a4⟩ => ?_) (fun σ' H' ⟨G', a1, a2, a3, a4⟩ => ?_)⟩
    · have hi : i < xs.length := (List.getElem?_eq_some_iff.mp hx).1
      have hi2 : i < ds.length := by rw [← dpa_len r]; exact hi
      obtain ⟨w, h1, h2⟩ := dpa_get r (List.getElem?_eq_getElem hi2)
      rw [hx] at h1
      obtain rfl := Option.some.inj h1
      exact turn i _ (List.getElem?_eq_getElem hi2) G' H' _ _ a2 (env_set (d := .d _) (dp_mono a1 _ _ h2) a3) a4 fun G2 H2 σ2 g2 gh2 en2 j2 => ⟨G2, a1.trans g2, gh2, en2, j2⟩
    · rw [dpa_len r] at a3 a4
      exact f G' H' σ' (g1.trans a1) a2 a3 a4
theorem units65 {k : Nat} {A : Around} (hr : Room k A) : A.units + 65 < cLine := by
  have := hr.un
  omega
/-- // by any divisor but 0, below 2 ^ 9000 -/
def CDivZ (_ j : Int) : Prop := j ≠ 0 ∧ j.natAbs.log2 < 9000
theorem op_fdivZ {X : Cx} : OpR X (binaryOp .FloorDiv) (rI CDivZ fun i j => .int (i.fdiv j)) := opI fun i j _ _ _ _ _ hc q => floordiv_int hc.1 q (.inl (PyProof.noPylong_of_log2 hc.2))
theorem divZ {i j : Int} {n : Nat} (h : j ≠ 0) (hb : j.natAbs < 2 ^ n) (hn : n ≤ 9000) : CDivZ i j := ⟨h, PySem.Flt.log2_lt_of (show 0 < 9000 by decide) (sz_le hb hn)⟩
theorem p_divZ {i j : Int} (ha : E K ta ρ I (.i i) I) (hb : E K tb ρ I (.i j) I) (hc : CDivZ i j) : E K (tOp (rI CDivZ fun i j => .int (i.fdiv j)) ta tb) ρ I (.i (i.fdiv j)) I := e_I (f := fun i j => i.fdiv j) ha hb hc
end
end PL

namespace PL
open PySem PySem.Spec PyProof.Rows L2 FR

/-! ### zip of three tuples -/
def ItzT3 (K : PySem.W.Frag) (a b c : Addr) : It :=
  ⟨fun i H => ∃ (xs ys zs : List V) (x y z : V), SqT K H a xs ∧ SqT K H b ys ∧ SqT K H c zs ∧ xs[i]? = some x ∧ ys[i]? = some y ∧ zs[i]? = some z,
    fun i H v H' => ∃ T x y z, v = .ref T ∧ H T = none ∧ H' = upd H T (.tup [x, y, z]) ∧ (∀ xs, SqT K H a xs → xs[i]? = some x) ∧ (∀ ys, SqT K H b ys → ys[i]? = some y) ∧ ∀ zs, SqT K H c zs → zs[i]? = some z,
    fun i H => ∃ xs ys zs : List V, SqT K H a xs ∧ SqT K H b ys ∧ SqT K H c zs ∧ xs.length = i ∧ ys.length = i ∧ zs.length = i⟩
def St3 (z TI TO i1 i2 i3 a b c : Addr) (i : Nat) (h : Heap) : Prop := IsZip h z TI TO .none ∧ IsTupOf3 h TI (.ref i1) (.ref i2) (.ref i3) ∧ (∃ a1 a2 a3, IsTupOf3 h TO a1 a2 a3) ∧ h.IsTupleIter i1 a i ∧ h.IsTupleIter i2 b i ∧ h.IsTupleIter i3 c i
theorem turn_zip3 {P : Program} {w : World} {K : PySem.W.Frag} {elts : List Expr} {kk : Nat} {tpos : Pos} {a b c N : Addr} (ha : a < N) (hb : b < N) (hc : c < N) :
    Turn P w K (.Tuple elts kk tpos) (ItzT3 K a b c) [N + 5, N + 3, N + 4, N, N + 1, N + 2] (N + 5) (St3 (N + 5) (N + 3) (N + 4) N (N + 1) (N + 2) a b c) where
  mem := by simp
  obj := fun i h st d hd => by
    obtain ⟨hz, hTI, ⟨x, y, u, hTO⟩, ⟨o1, e1, _, d1⟩, ⟨o2, e2, _, d2⟩, ⟨o3, e3, _, d3⟩⟩ := st
    have e' : d = N + 5 ∨ d = N + 3 ∨ d = N + 4 ∨ d = N ∨ d = N + 1 ∨ d = N + 2 := by simpa using hd
    rcases e' with q | q | q | q | q | q
    · rw [q]; exact ⟨_, hz, fun v q => nomatch q⟩
    · rw [q]; exact ⟨_, hTI, fun v q => nomatch q⟩
    · rw [q]; exact ⟨_, hTO, fun v q => nomatch q⟩
    · rw [q]; exact ⟨o1, e1, fun v q => by rw [d1] at q; cases q⟩
    · rw [q]; exact ⟨o2, e2, fun v q => by rw [d2] at q; cases q⟩
    · rw [q]; exact ⟨o3, e3, fun v q => by rw [d3] at q; cases q⟩
  keep := fun i h h' st k => by
    obtain ⟨hz, hTI, ⟨x, y, u, hTO⟩, h1, h2, h3⟩ := st
    exact ⟨k _ (by simp) _ hz, k _ (by simp) _ hTI, ⟨x, y, u, k _ (by simp) _ hTO⟩, h1.at fun o q => k N (by simp) o q, h2.at fun o q => k (N + 1) (by simp) o q, h3.at fun o q => k (N + 2) (by simp) o q⟩
  item := by
    intro X hP hw hK hcm i pins s σ H E I hf st hg
    subst hP hw hK
    obtain ⟨xs, ys, zs, x, y, z, hqx, hqy, hqz, hx, hy, hz0⟩ := hg
    obtain ⟨its, rv, p, _⟩ := I.tuple hqx
    obtain ⟨its2, rv2, p2, _⟩ := I.tuple hqy
    obtain ⟨its3, rv3, p3, _⟩ := I.tuple hqz
    obtain ⟨u, hu, ru⟩ := rv.get hx
    obtain ⟨u2, hu2, ru2⟩ := rv2.get hy
    obtain ⟨u3, hu3, ru3⟩ := rv3.get hz0
    obtain ⟨hz, hTI, hTO, h1, h2, h3⟩ := st
    have hh : X.A.in1.handled = none := I.ok.hd hcm
    have S := zip_sep3 (N := N) (fp1 := [a]) (fp2 := [b]) (fp3 := [c]) (by simpa using ha) (by simpa using hb) (by simpa using hc)
    have D1 := Draws.tuple (prog := X.prog) (w := X.w) hh N a (Nat.ne_of_lt ha) its.toArray
    have D2 := Draws.tuple (prog := X.prog) (w := X.w) hh (N + 1) b (Nat.ne_of_lt (Nat.lt_succ_of_lt hb)) its2.toArray
    have D3 := Draws.tuple (prog := X.prog) (w := X.w) hh (N + 2) c (Nat.ne_of_lt (Nat.lt_succ_of_lt (Nat.lt_succ_of_lt hc))) its3.toArray
    have W := GoesN.zip3 (elts := elts) (x1 := kk) (pos := tpos) S D1 D2 D3
    have hi : i < min (min its.toArray.size its2.toArray.size) its3.toArray.size := by
      have l1 := (List.getElem?_eq_some_iff.mp hu).1
      have l2 := (List.getElem?_eq_some_iff.mp hu2).1
      have l3 := (List.getElem?_eq_some_iff.mp hu3).1
      simp only [List.size_toArray]
      omega
    refine W.goes i s (fun v s2 => ∃ x H', Inv X pins σ H' s2 ∧ RelV x v ∧ (ItzT3 X.K a b c).yld i H x H' ∧ St3 (N + 5) (N + 3) (N + 4) N (N + 1) (N + 2) a b c (i + 1) s2.heap ∧ ∀ b ∈ [N + 5, N + 3, N + 4, N, N + 1, N + 2], H' b = none) E hi ⟨hz, hTI, hTO, ⟨h1, p⟩, ⟨h2, p2⟩, ⟨h3, p3⟩⟩ fun v h' tk hY st' hk htk => ?_
    obtain ⟨T, w1, w2, w3, ev, hT, e1, e2, e3, hTup⟩ := hY
    have e1 : w1 = u := by
      have q : its[i]? = some w1 := by simpa using e1
      rw [hu] at q
      exact (Option.some.inj q).symm
    have e2 : w2 = u2 := by
      have q : its2[i]? = some w2 := by simpa using e2
      rw [hu2] at q
      exact (Option.some.inj q).symm
    have e3 : w3 = u3 := by
      have q : its3[i]? = some w3 := by simpa using e3
      rw [hu3] at q
      exact (Option.some.inj q).symm
    subst e1 e2 e3
    obtain ⟨q1, q2, q3, ⟨q4, _⟩, ⟨q5, _⟩, ⟨q6, _⟩⟩ := st'
    have hm : ∀ d, d ∈ [N + 5, N + 4, N, N + 1, N + 2] → d ∈ [N + 5, N + 3, N + 4, N, N + 1, N + 2] := fun d hd => by
      have e' : d = N + 5 ∨ d = N + 4 ∨ d = N ∨ d = N + 1 ∨ d = N + 2 := by simpa using hd
      rcases e' with z | z | z | z | z <;> rw [z] <;> simp
    have new : ObjOk X.prog X.w (upd H T (.tup [x, y, z])) h' T (.tup [x, y, z]) := ⟨by show 3 ≤ sizeLine; decide, [w1, w2, w3], .cons ru (.cons ru2 (.cons ru3 .nil)), hTup⟩
    have I1 : Inv X pins σ (upd H T (.tup [x, y, z])) { s with heap := h', toks := tk } := I.turnedNew (t' := tk) (ch := [N + 5, N + 4, N, N + 1, N + 2]) (fun b o hb q => hk b o hb q) (fun b hb => hf b (hm b hb)) hT new
    refine ⟨.ref T, _, I1, ev ▸ rfl, ⟨T, x, y, z, rfl, I.hok.fresh hT, rfl, fun l hl => by rw [I.tuple_inj hl hqx]; exact hx, fun l hl => by rw [I.tuple_inj hl hqy]; exact hy, fun l hl => by rw [I.tuple_inj hl hqz]; exact hz0⟩, ⟨q1, q2, q3, q4, q5, q6⟩, fun d hd => ?_⟩
    have hlt : d < s.heap.objs.size := by
      have e' : d = N + 5 ∨ d = N + 3 ∨ d = N + 4 ∨ d = N ∨ d = N + 1 ∨ d = N + 2 := by simpa using hd
      obtain ⟨_, _, _, hTO⟩ := hTO
      rcases e' with q | q | q | q | q | q
      · rw [q]; exact Heap.lt_size hz
      · rw [q]; exact Heap.lt_size hTI
      · rw [q]; exact Heap.lt_size hTO
      · rw [q]; obtain ⟨_, e1, _⟩ := h1; exact Heap.lt_size e1
      · rw [q]; obtain ⟨_, e1, _⟩ := h2; exact Heap.lt_size e1
      · rw [q]; obtain ⟨_, e1, _⟩ := h3; exact Heap.lt_size e1
    rw [upd_ne (Nat.ne_of_lt (Nat.lt_of_lt_of_le hlt hT))]
    exact (hf d hd).1
  done := by
    intro X hP hw hK hcm i pins s σ H E I hf st hg
    subst hP hw hK
    obtain ⟨xs, ys, zs, hqx, hqy, hqz, lx, ly, lz⟩ := hg
    obtain ⟨its, rv, p, _⟩ := I.tuple hqx
    obtain ⟨its2, rv2, p2, _⟩ := I.tuple hqy
    obtain ⟨its3, rv3, p3, _⟩ := I.tuple hqz
    obtain ⟨hz, hTI, hTO, h1, h2, h3⟩ := st
    have hh : X.A.in1.handled = none := I.ok.hd hcm
    have S := zip_sep3 (N := N) (fp1 := [a]) (fp2 := [b]) (fp3 := [c]) (by simpa using ha) (by simpa using hb) (by simpa using hc)
    have D1 := Draws.tuple (prog := X.prog) (w := X.w) hh N a (Nat.ne_of_lt ha) its.toArray
    have D2 := Draws.tuple (prog := X.prog) (w := X.w) hh (N + 1) b (Nat.ne_of_lt (Nat.lt_succ_of_lt hb)) its2.toArray
    have D3 := Draws.tuple (prog := X.prog) (w := X.w) hh (N + 2) c (Nat.ne_of_lt (Nat.lt_succ_of_lt (Nat.lt_succ_of_lt hc))) its3.toArray
    have W := GoesN.zip3 (elts := elts) (x1 := kk) (pos := tpos) S D1 D2 D3
    have ei : i = min (min its.toArray.size its2.toArray.size) its3.toArray.size := by
      have l1 := rv.length
      have l2 := rv2.length
      have l3 := rv3.length
      simp only [List.size_toArray]
      omega
    have hm : ∀ d, d ∈ [N + 5, N + 4, N, N + 1, N + 2] → d ∈ [N + 5, N + 3, N + 4, N, N + 1, N + 2] := fun d hd => by
      have e' : d = N + 5 ∨ d = N + 4 ∨ d = N ∨ d = N + 1 ∨ d = N + 2 := by simpa using hd
      rcases e' with z | z | z | z | z <;> rw [z] <;> simp
    rw [ei] at h1 h2 h3
    exact W.stops s (fun s1 => Inv X pins σ H s1) E ⟨hz, hTI, hTO, ⟨h1, p⟩, ⟨h2, p2⟩, ⟨h3, p3⟩⟩ fun h' tk hk _ => I.turnedL (t' := tk) (ch := [N + 5, N + 4, N, N + 1, N + 2]) (fun b o hb q => hk b o hb q) (fun b hb => hf b (hm b hb))
  self := fun A i s Q E st h => wpAny_pyIter_zip st.1 h
def iZip3 (K : PySem.W.Frag) (ta : TA) : TI := fun σ H R => ta σ H fun vs H1 => ∃ a b c xs ys zs, vs = [.ref a, .ref b, .ref c] ∧ SqT K H1 a xs ∧ SqT K H1 b ys ∧ SqT K H1 c zs ∧ R (ItzT3 K a b c) H1
theorem pi_zip3 {X : Cx} {e e2 e3 : Expr} {ta : TA} {p pos tpos : Pos} {elts : List Expr} {kk : Nat} (hg : Gl X "zip") (hm : X.mg "zip" = none) (ha : PA X [e, e2, e3] ta)
    (hs : starEach [e, e2, e3] X.env = (false, eval e X.env) :: starEach [e2, e3] X.env := by rfl) (hpl : (backTo pos (starEach [e2, e3] X.env)).any (·.1) = false := by rfl) :
    PI X (.Tuple elts kk tpos) (.Call (.Name "zip" p) [e, e2, e3] [] pos) (iZip3 X.K ta) := by
  refine ⟨fun pins s σ H R I h => ?_⟩
  refine Call_ (ld_blt I hg hm PyProof.Rows.boot_zip (PyProof.Rows.callWith_type1 (thn (ha.run pos pins s σ H _ I h) fun us s1 ⟨vs, H1, I1, r1, q1⟩ => ?_) hs hpl))
  obtain ⟨a, b, c, xs, ys, zs, ex, hqx, hqy, hqz, q⟩ := q1
  subst ex
  cases r1 with
  | cons r rr =>
    cases rr with
    | cons r' rr =>
      cases rr with
      | cons r'' rr =>
        cases rr
        cases r
        cases r'
        cases r''
        have fresh : ∀ d, d ∈ [s1.heap.objs.size + 5, s1.heap.objs.size + 3, s1.heap.objs.size + 4, s1.heap.objs.size, s1.heap.objs.size + 1, s1.heap.objs.size + 2] → FpOk X pins H1 d := fun d hd => by
          have hle : s1.heap.objs.size ≤ d := by
            have e' : d = s1.heap.objs.size + 5 ∨ d = s1.heap.objs.size + 3 ∨ d = s1.heap.objs.size + 4 ∨ d = s1.heap.objs.size ∨ d = s1.heap.objs.size + 1 ∨ d = s1.heap.objs.size + 2 := by simpa using hd
            rcases e' with z | z | z | z | z | z
            · rw [z]; exact Nat.le_add_right _ _
            · rw [z]; exact Nat.le_add_right _ _
            · rw [z]; exact Nat.le_add_right _ _
            · rw [z]; exact Nat.le_refl _
            · rw [z]; exact Nat.le_add_right _ _
            · rw [z]; exact Nat.le_add_right _ _
          exact I1.fpOk hle (I1.hok.fresh hle)
        obtain ⟨its, rv, p1, _⟩ := I1.tuple hqx
        obtain ⟨its2, rv2, p2, _⟩ := I1.tuple hqy
        obtain ⟨its3, rv3, p3, _⟩ := I1.tuple hqz
        obtain ⟨o1, ho1, _⟩ := id p1
        obtain ⟨o2, ho2, _⟩ := id p2
        obtain ⟨o3, ho3, _⟩ := id p3
        refine zip_begins3 (begins_tuple a its.toArray) (begins_tuple b its2.toArray) (begins_tuple c its3.toArray) p1 p2 p3 fun h' hz hTI hTO g1 g2 g3 hsz hk => wpAny_pyIter_zip hz ?_
        have I2 : Inv X pins σ H1 { s1 with heap := h' } := I1.kept (t' := s1.toks) hk
        exact ⟨_, [s1.heap.objs.size + 5, s1.heap.objs.size + 3, s1.heap.objs.size + 4, s1.heap.objs.size, s1.heap.objs.size + 1, s1.heap.objs.size + 2], _, _, H1, rfl, I2, turn_zip3 (Heap.lt_size ho1) (Heap.lt_size ho2) (Heap.lt_size ho3), ⟨hz, hTI, ⟨_, _, _, hTO⟩, ⟨_, g1, rfl, rfl⟩, ⟨_, g2, rfl, rfl⟩, ⟨_, g3, rfl, rfl⟩⟩, fresh, q⟩
end PL

namespace PL
open PySem PySem.Spec PyProof.Rows L2 FR

section
variable {K : PySem.W.Frag} {ρ ρ1 ρ2 : Rho} {I J L N : Asn} {ta tb tc te : TE} {d e : Dat} {t u : TT} {b c : Bool} {ts us : TS} {k : Out} {tr : TA} {q : Addr} {ds : List PyData} {x y : PyData}
theorem e_post {J' : Asn} (h : ∀ G H, J.ok G H → J'.ok G H) (hs : E K te ρ I d J) : E K te ρ I d J' := fun G H σ gh en io Q q => hs G H σ gh en io Q fun v G2 H2 a b j => q v G2 H2 a b (h G2 H2 j)
theorem e_pre {I' : Asn} (h : ∀ G H, I.ok G H → I'.ok G H) (hs : E K te ρ I' d J) : E K te ρ I d J := fun G H σ gh en io Q q => hs G H σ gh en (h G H io) Q q
/-! ### targets -/
def GJ (K : PySem.W.Frag) (g : TG) (x : PyData) (ρ ρ' : Rho) : Prop := ∀ G H σ v (Q : L2.St → Hp → Prop), Same G H → EnvD K G σ ρ → Dp K G v x → (∀ σ', EnvD K G σ' ρ' → Q σ' H) → g v σ H Q
def GJs (K : PySem.W.Frag) (g : TGs) (xs : List PyData) (ρ ρ' : Rho) : Prop := ∀ G H σ vs (Q : L2.St → Hp → Prop), Same G H → EnvD K G σ ρ → DpAll K G vs xs → (∀ σ', EnvD K G σ' ρ' → Q σ' H) → g vs σ H Q
theorem g_name {i : Nat} : GJ K (gName i) x ρ (ρ.set i (some (.d x))) := fun G H σ v Q gh en dv q => q _ (env_set (d := .d x) dv en)
theorem g_tup {g : TGs} {n : Nat} (hn : ds.length = n) (h : GJs K g ds ρ ρ1) : GJ K (gTup K n g) (.tuple ds) ρ ρ1 := fun G H σ v Q gh en dv q => by
  cases dv with
  | tup s r => exact ⟨_, _, rfl, same_t gh s, by rw [dpa_len r, hn], h G H σ _ Q gh en r q⟩
theorem g_nil : GJs K gNil [] ρ ρ := fun G H σ vs Q gh en dv q => by
  cases dv
  exact ⟨rfl, q σ en⟩
theorem g_cons {g : TG} {gs : TGs} (h : GJ K g x ρ ρ1) (hs : GJs K gs ds ρ1 ρ2) : GJs K (gCons g gs) (x :: ds) ρ ρ2 := fun G H σ vs Q gh en dv q => by
  cases dv with
  | cons a b => exact ⟨_, _, rfl, h G H σ _ _ gh en a fun σ' en' => hs G H σ' _ Q gh en' b q⟩
theorem s_asgG {g : TG} (h : E K te ρ I (.d x) J) (hg : GJ K g x ρ ρ1) : S K (tAsg te g) ρ I (.nx ρ1 J) := fun G H σ D gh en io f => h G H σ gh en io _ fun v G1 H1 g1 gh1 j1 dv => hg G1 H1 σ v _ gh1 (env_mono g1 en) dv fun σ' en' => f G1 H1 σ' g1 gh1 en' j1
/-! ### for, with any target, that may be left by a return in turn m -/
def Out.isRt (k : Out) : Prop := ∃ d J, k = .rt d J
/-- the turns: turn i goes on for i < m; m is the end, or turn m returns -/
structure Turns (K : PySem.W.Frag) (g : TG) (ts : TS) (xs : Nat → Option PyData) (n : Nat) (P : Nat → Rho) (V : Nat → Asn) (m : Nat) (k : Out) : Prop where
  le : m ≤ n
  go : ∀ i x, i < m → xs i = some x → ∃ ρ', GJ K g x (P i) ρ' ∧ S K ts ρ' (V i) (.nx (P (i + 1)) (V (i + 1)))
  fin : (m = n ∧ k = .nx (P n) (V n)) ∨ (m < n ∧ k.isRt ∧ ∀ x, xs m = some x → ∃ ρ', GJ K g x (P m) ρ' ∧ S K ts ρ' (V m) k)
theorem Turns.all {g : TG} {xs : Nat → Option PyData} {n : Nat} {P : Nat → Rho} {V : Nat → Asn} (go : ∀ i x, i < n → xs i = some x → ∃ ρ', GJ K g x (P i) ρ' ∧ S K ts ρ' (V i) (.nx (P (i + 1)) (V (i + 1)))) : Turns K g ts xs n P V n (.nx (P n) (V n)) := ⟨Nat.le_refl _, go, .inl ⟨rfl, rfl⟩⟩
/-- one turn, at the item v (data x): what the loop's rules ask -/
theorem Turns.turn {g : TG} {xs : Nat → Option PyData} {n : Nat} {P : Nat → Rho} {V : Nat → Asn} {m : Nat} (T : Turns K g ts xs n P V m k) {D : Ends} {G0 G' H : Hp} {σ : L2.St} {i : Nat} {v : L2.V} (f : Fin K D G0 k) (hi : i < n) (him : i ≤ m) (hx : xs i = some x) (a1 : Same G0 G') (a2 : Same G' H) (en : EnvD K G' σ (P i)) (vo : (V i).ok G' H) (dv : Dp K G' v x) :
    ∃ N : L2.St → Hp → Prop, (∀ σ' H', N σ' H' → i < m ∧ ∃ G2, Same G0 G2 ∧ Same G2 H' ∧ EnvD K G2 σ' (P (i + 1)) ∧ (V (i + 1)).ok G2 H') ∧ g v σ H fun σ2 H2 => ts { D with nx := N, ct := N, bk := D.nx } σ2 H2 := by
  by_cases c : i < m
  · obtain ⟨ρ', hg, hs⟩ := T.go i x c hx
    refine ⟨fun σ' H' => i < m ∧ ∃ G2, Same G0 G2 ∧ Same G2 H' ∧ EnvD K G2 σ' (P (i + 1)) ∧ (V (i + 1)).ok G2 H', fun _ _ z => z, ?_⟩
    exact hg G' H σ v _ a2 en dv fun σ' en' => hs G' H σ' _ a2 en' vo fun G2 H2 σ2 g2 gh2 en2 j2 => ⟨c, G2, a1.trans g2, gh2, en2, j2⟩
  · obtain rfl : i = m := by omega
    rcases T.fin with ⟨e, _⟩ | ⟨_, hk, ht⟩
    · omega
    · obtain ⟨ρ', hg, hs⟩ := ht x hx
      obtain ⟨d, J, rfl⟩ := hk
      refine ⟨fun _ _ => False, fun _ _ z => z.elim, ?_⟩
      exact hg G' H σ v _ a2 en dv fun σ' en' => hs G' H σ' _ a2 en' vo (f.mono a1 : Fin K D G' (.rt d J))
theorem s_forTG {tl : TE} {g : TG} {P : Nat → Rho} {V : Nat → Asn} {m : Nat} (hl : E K tl ρ I (.t ds) (V 0)) (h0 : ρ = P 0) (T : Turns K g ts (fun i => ds[i]?) ds.length P V m k) : S K (tFor (iTup K tl) g ts) ρ I k := fun G H σ D gh en io f => by
  refine hl G H σ gh en io _ fun v G1 H1 g1 gh1 j1 dv => ?_
  cases dv with
  | tup s r =>
    rename_i a xs
    subst h0
    have lx := dpa_len r
    refine ⟨a, rfl, ⟨_, same_t gh1 s⟩, fun i mm σ' H' => mm = ds.length - i ∧ i ≤ m ∧ ∃ G', Same G1 G' ∧ Same G' H' ∧ EnvD K G' σ' (P i) ∧ (V i).ok G' H', ⟨ds.length, rfl, Nat.zero_le _, G1, Same.refl _, gh1, env_mono g1 en, j1⟩, fun i mm σ' H' hw => ?_⟩
    obtain ⟨rfl, him, G', a1, a2, a3, a4⟩ := hw
    have hm := T.le
    by_cases hi : i < ds.length
    · have hix : i < xs.length := by omega
      obtain ⟨w, h1, h2⟩ := dpa_get r (List.getElem?_eq_getElem hi)
      have sq := same_t (a1.trans a2) s
      obtain ⟨N, hN, hg⟩ := T.turn (v := w) (f.mono g1) hi him (List.getElem?_eq_getElem hi) a1 a2 a3 a4 (dp_mono a1 _ _ h2)
      refine .inr ⟨⟨xs, w, sq, h1⟩, N, fun σ2 H2 z => ?_, fun x H2 y => ?_⟩
      · obtain ⟨c, w2⟩ := hN σ2 H2 z
        exact ⟨ds.length - (i + 1), by omega, rfl, c, w2⟩
      · obtain ⟨rfl, y2⟩ := y
        have ex : x = w := Option.some.inj ((y2 xs sq).symm.trans h1)
        rw [ex]
        exact hg
    · have e : i = ds.length := by omega
      subst e
      rcases T.fin with ⟨e, rfl⟩ | ⟨lt, _⟩
      · exact .inl ⟨⟨xs, same_t (a1.trans a2) s, by omega⟩, f G' H' σ' (g1.trans a1) a2 a3 a4⟩
      · omega
theorem s_forLG {tl : TE} {g : TG} {P : Nat → Rho} {V : Nat → Asn} {m : Nat} (hl : E K tl ρ I (.d (.list ds)) (V 0)) (h0 : ρ = P 0) (T : Turns K g ts (fun i => ds[i]?) ds.length P V m k) : S K (tFor (iList K tl) g ts) ρ I k := fun G H σ D gh en io f => by
  refine hl G H σ gh en io _ fun v G1 H1 g1 gh1 j1 dv => ?_
  cases dv with
  | lst s r =>
    rename_i a xs
    subst h0
    have lx := dpa_len r
    refine ⟨a, rfl, ⟨_, gh1.seq s⟩, fun i mm σ' H' => mm = ds.length - i ∧ i ≤ m ∧ ∃ G', Same G1 G' ∧ Same G' H' ∧ EnvD K G' σ' (P i) ∧ (V i).ok G' H', ⟨ds.length, rfl, Nat.zero_le _, G1, Same.refl _, gh1, env_mono g1 en, j1⟩, fun i mm σ' H' hw => ?_⟩
    obtain ⟨rfl, him, G', a1, a2, a3, a4⟩ := hw
    have hm := T.le
    by_cases hi : i < ds.length
    · have hix : i < xs.length := by omega
      obtain ⟨w, h1, h2⟩ := dpa_get r (List.getElem?_eq_getElem hi)
      have sq := (a1.trans a2).seq s
      obtain ⟨N, hN, hg⟩ := T.turn (v := w) (f.mono g1) hi him (List.getElem?_eq_getElem hi) a1 a2 a3 a4 (dp_mono a1 _ _ h2)
      refine .inr ⟨⟨xs, w, sq, h1⟩, N, fun σ2 H2 z => ?_, fun x H2 y => ?_⟩
      · obtain ⟨c, w2⟩ := hN σ2 H2 z
        exact ⟨ds.length - (i + 1), by omega, rfl, c, w2⟩
      · obtain ⟨rfl, y2⟩ := y
        have ex : x = w := Option.some.inj ((y2 xs sq).symm.trans h1)
        rw [ex]
        exact hg
    · have e : i = ds.length := by omega
      subst e
      rcases T.fin with ⟨e, rfl⟩ | ⟨lt, _⟩
      · exact .inl ⟨⟨xs, (a1.trans a2).seq s, by omega⟩, f G' H' σ' (g1.trans a1) a2 a3 a4⟩
      · omega
/-- the i-th items of three rows -/
def zip3 (xs ys zs : List PyData) (i : Nat) : Option PyData := match xs[i]?, ys[i]?, zs[i]? with
  | some x, some y, some z => some (.tuple [x, y, z])
  | _, _, _ => none
theorem s_forZ3 {g : TG} {xs ys zs : List PyData} {P : Nat → Rho} {V : Nat → Asn} {m n : Nat} (hl : A K tr ρ I [.t xs, .t ys, .t zs] (V 0)) (hx : xs.length = n) (hy : ys.length = n) (hz : zs.length = n) (h0 : ρ = P 0) (T : Turns K g ts (zip3 xs ys zs) n P V m k) : S K (tFor (iZip3 K tr) g ts) ρ I k := fun G H σ D gh en io f => by
  refine hl G H σ gh en io _ fun vs G1 H1 g1 gh1 j1 dvs => ?_
  match vs, dvs with
  | [v1, v2, v3], ⟨d1, d2, d3, _⟩ =>
    cases d1 with
    | tup s1 r1 =>
      cases d2 with
      | tup s2 r2 =>
        cases d3 with
        | tup s3 r3 =>
          rename_i a1 us1 a2 us2 a3 us3
          subst h0
          have l1 := dpa_len r1
          have l2 := dpa_len r2
          have l3 := dpa_len r3
          refine ⟨a1, a2, a3, us1, us2, us3, rfl, same_t gh1 s1, same_t gh1 s2, same_t gh1 s3, fun i mm σ' H' => mm = n - i ∧ i ≤ m ∧ ∃ G', Same G1 G' ∧ Same G' H' ∧ EnvD K G' σ' (P i) ∧ (V i).ok G' H', ⟨n, rfl, Nat.zero_le _, G1, Same.refl _, gh1, env_mono g1 en, j1⟩, fun i mm σ' H' hw => ?_⟩
          obtain ⟨rfl, him, G', b1, b2, b3, b4⟩ := hw
          have hm := T.le
          have q1 := same_t (b1.trans b2) s1
          have q2 := same_t (b1.trans b2) s2
          have q3 := same_t (b1.trans b2) s3
          by_cases hi : i < n
          · have e1 := List.getElem?_eq_getElem (l := xs) (i := i) (by omega)
            have e2 := List.getElem?_eq_getElem (l := ys) (i := i) (by omega)
            have e3 := List.getElem?_eq_getElem (l := zs) (i := i) (by omega)
            obtain ⟨w1, h1, p1⟩ := dpa_get r1 e1
            obtain ⟨w2, h2, p2⟩ := dpa_get r2 e2
            obtain ⟨w3, h3, p3⟩ := dpa_get r3 e3
            have hzip : zip3 xs ys zs i = some (.tuple [xs[i], ys[i], zs[i]]) := by
              unfold zip3
              rw [e1, e2, e3]
            -- the new tuple may stand anywhere that is free
            by_cases c : i < m
            · obtain ⟨ρ', hg, hs⟩ := T.go i _ c hzip
              refine .inr ⟨⟨us1, us2, us3, w1, w2, w3, q1, q2, q3, h1, h2, h3⟩, fun σ2 H2 => i < m ∧ ∃ G2, Same G1 G2 ∧ Same G2 H2 ∧ EnvD K G2 σ2 (P (i + 1)) ∧ (V (i + 1)).ok G2 H2, fun σ2 H2 z => ⟨n - (i + 1), by omega, rfl, z⟩, fun x H2 y => ?_⟩
              obtain ⟨Tp, x1, x2, x3, rfl, nT, rfl, f1, f2, f3⟩ := y
              obtain rfl : x1 = w1 := Option.some.inj ((f1 us1 q1).symm.trans h1)
              obtain rfl : x2 = w2 := Option.some.inj ((f2 us2 q2).symm.trans h2)
              obtain rfl : x3 = w3 := Option.some.inj ((f3 us3 q3).symm.trans h3)
              have st := Stp.new (o := .tup [x1, x2, x3]) b2 nT
              have c1 := b1.trans st.gg
              exact hg _ _ σ' _ _ st.gh (env_mono st.gg b3) (.tup (.inl (.inl upd_same)) (.cons (dp_mono c1 _ _ p1) (.cons (dp_mono c1 _ _ p2) (.cons (dp_mono c1 _ _ p3) .nil)))) fun σ2 en2 => hs _ _ σ2 _ st.gh en2 (Asn.pure_st st b4) fun G2 H2 σ3 g2 gh2 en3 j3 => ⟨c, G2, c1.trans g2, gh2, en3, j3⟩
            · obtain rfl : i = m := by omega
              rcases T.fin with ⟨e, _⟩ | ⟨_, hk, ht⟩
              · omega
              · obtain ⟨ρ', hg, hs⟩ := ht _ hzip
                obtain ⟨d, J, rfl⟩ := hk
                refine .inr ⟨⟨us1, us2, us3, w1, w2, w3, q1, q2, q3, h1, h2, h3⟩, fun _ _ => False, fun _ _ z => z.elim, fun x H2 y => ?_⟩
                obtain ⟨Tp, x1, x2, x3, rfl, nT, rfl, f1, f2, f3⟩ := y
                obtain rfl : x1 = w1 := Option.some.inj ((f1 us1 q1).symm.trans h1)
                obtain rfl : x2 = w2 := Option.some.inj ((f2 us2 q2).symm.trans h2)
                obtain rfl : x3 = w3 := Option.some.inj ((f3 us3 q3).symm.trans h3)
                have st := Stp.new (o := .tup [x1, x2, x3]) b2 nT
                have c1 := b1.trans st.gg
                exact hg _ _ σ' _ _ st.gh (env_mono st.gg b3) (.tup (.inl (.inl upd_same)) (.cons (dp_mono c1 _ _ p1) (.cons (dp_mono c1 _ _ p2) (.cons (dp_mono c1 _ _ p3) .nil)))) fun σ2 en2 => hs _ _ σ2 _ st.gh en2 (Asn.pure_st st b4) ((f.mono g1).mono c1 : Fin K D _ (.rt d J))
          · have e : i = n := by omega
            subst e
            rcases T.fin with ⟨e, rfl⟩ | ⟨lt, _⟩
            · exact .inl ⟨⟨us1, us2, us3, q1, q2, q3, by omega, by omega, by omega⟩, f G' H' σ' (g1.trans b1) b2 b3 b4⟩
            · omega
/-! ### new lists -/
theorem e_lstL {ds : List Dat} {xs : List PyData} (hr : A K tr ρ I ds J) (hd : Ds ds xs) (hl : xs.length ≤ 100000) : E K (tLst tr) ρ I (.l xs) J :=
  fun G H σ gh en io Q q => hr G H σ gh en io _ fun vs G1 H1 g1 gh1 j1 dxs => by
    have r : DpAll K G1 vs xs := dva_dp (by rw [← hd.map]; exact dxs)
    refine ⟨by rw [dpa_len r]; exact sz_of hl, fun p hp => ?_⟩
    have s := Stp.new (o := .lst vs) gh1 hp
    exact q _ _ _ (g1.trans s.gg) s.gh (Asn.pure_st s j1) ⟨p, vs, rfl, upd_same, dp_monos s.gg xs vs r⟩
theorem e_l2d (h : E K te ρ I (.l ds) J) : E K te ρ I (.d (.list ds)) J := fun G H σ gh en io Q q => h G H σ gh en io Q fun v G1 H1 g1 gh1 j1 ⟨a, vs, ev, ha, r⟩ => q v G1 H1 g1 gh1 j1 (by rw [ev]; exact .lst (.inl (.inl ha)) r)
theorem cut_to {α : Type} {xs : List V} {j : Nat} : cutV xs none (some (j : Nat)) = xs.take j := by
  unfold cutV
  rw [HT.sIx_none, HT.sIx_nat, List.drop_zero, Nat.sub_zero]
  by_cases h : j ≤ xs.length
  · rw [Nat.min_eq_left h]
  · rw [Nat.min_eq_right (by omega), List.take_of_length_le (Nat.le_refl _), List.take_of_length_le (by omega)]
theorem cut_from {xs : List V} {j : Nat} : cutV xs (some (j : Nat)) none = xs.drop j := by
  unfold cutV
  rw [HT.sIx_none, HT.sIx_nat]
  by_cases h : j ≤ xs.length
  · rw [Nat.min_eq_left h, List.take_of_length_le (by rw [List.length_drop]; omega)]
  · rw [Nat.min_eq_right (by omega), List.drop_of_length_le (Nat.le_refl _), List.drop_of_length_le (by omega), List.take_nil]
theorem dpa_take {G : Hp} : ∀ {vs : List V} {ds : List PyData} (n : Nat), DpAll K G vs ds → DpAll K G (vs.take n) (ds.take n)
  | _, _, 0, _ => .nil
  | _, _, _ + 1, .nil => .nil
  | _, _, n + 1, .cons a b => .cons a (dpa_take n b)
theorem dpa_drop {G : Hp} : ∀ {vs : List V} {ds : List PyData} (n : Nat), DpAll K G vs ds → DpAll K G (vs.drop n) (ds.drop n)
  | _, _, 0, h => h
  | _, _, _ + 1, .nil => .nil
  | _, _, n + 1, .cons _ b => dpa_drop n b
theorem e_sliceTo {j : Nat} (ha : E K ta ρ I (.d (.list ds)) I) (hb : E K tb ρ I (.i (j : Nat)) I) : E K (tSl (rSlL K) ta tNoPart (tPart tb)) ρ I (.l (ds.take j)) I := fun G H σ gh en io Q q =>
  ha G H σ gh en io _ fun v G1 H1 g1 gh1 j1 dv => hb G1 H1 σ gh1 (env_mono g1 en) j1 _ fun w G2 H2 g2 gh2 j2 dw => by
    obtain rfl := dv_int dw
    cases dv with
    | lst s r =>
      rename_i a xs
      refine ⟨_, rfl, a, xs, rfl, (g2.trans gh2).seq s, fun p hp => ?_⟩
      rw [cut_to (α := V)]
      have st := Stp.new (o := .lst (xs.take j)) gh2 hp
      exact q _ _ _ ((g1.trans g2).trans st.gg) st.gh (Asn.pure_st st j2) ⟨p, _, rfl, upd_same, dpa_take j (dp_monos (g2.trans st.gg) ds xs r)⟩
theorem e_sliceFrom {j : Nat} (ha : E K ta ρ I (.d (.list ds)) I) (hb : E K tb ρ I (.i (j : Nat)) I) : E K (tSl (rSlL K) ta (tPart tb) tNoPart) ρ I (.l (ds.drop j)) I := fun G H σ gh en io Q q =>
  ha G H σ gh en io _ fun v G1 H1 g1 gh1 j1 dv => hb G1 H1 σ gh1 (env_mono g1 en) j1 _ fun w G2 H2 g2 gh2 j2 dw => by
    obtain rfl := dv_int dw
    cases dv with
    | lst s r =>
      rename_i a xs
      refine ⟨_, rfl, a, xs, rfl, (g2.trans gh2).seq s, fun p hp => ?_⟩
      rw [cut_from]
      have st := Stp.new (o := .lst (xs.drop j)) gh2 hp
      exact q _ _ _ ((g1.trans g2).trans st.gg) st.gh (Asn.pure_st st j2) ⟨p, _, rfl, upd_same, dpa_drop j (dp_monos (g2.trans st.gg) ds xs r)⟩
theorem e_cat {es : List PyData} (ha : E K ta ρ I (.l ds) J) (hb : E K tb ρ J (.l es) L) (hl : ds.length + es.length ≤ 100000) : E K (tOp rCat ta tb) ρ I (.l (ds ++ es)) L :=
  e_op ha hb fun G H a b gh lo ⟨p, vs, e1, h1, r1⟩ ⟨q', ws, e2, h2, r2⟩ Q q => by
    subst e1 e2
    refine ⟨p, q', vs, ws, rfl, rfl, gh _ _ h1, gh _ _ h2, by rw [dpa_len r1, dpa_len r2]; exact sz_of hl, fun l hp => ?_⟩
    have st := Stp.new (o := .lst (vs ++ ws)) gh hp
    exact q _ _ _ st.gg st.gh (Asn.pure_st st lo) ⟨l, _, rfl, upd_same, dpa_app (dp_monos st.gg ds vs r1) (dp_monos st.gg es ws r2)⟩
/-! ### [x for x in xs if t] -/
def keepL (ds : List PyData) (bs : List Bool) : List PyData := ((ds.zip bs).filter (·.2)).map (·.1)
theorem keepL_snoc {ds : List PyData} {bs : List Bool} {i : Nat} {x : PyData} {b : Bool} (hx : ds[i]? = some x) (hb : bs[i]? = some b) : keepL (ds.take (i + 1)) (bs.take (i + 1)) = keepL (ds.take i) (bs.take i) ++ (if b = true then [x] else []) := by
  have h1 := (List.getElem?_eq_some_iff.mp hx).1
  have h2 := (List.getElem?_eq_some_iff.mp hb).1
  unfold keepL
  rw [List.take_add_one, List.take_add_one, hx, hb, List.zip_append (by rw [List.length_take, List.length_take]; omega), List.filter_append, List.map_append]
  cases b <;> rfl
theorem keepL_fr (g : F → Bool) : ∀ fs : List F, keepL (fs.map fr) (fs.map g) = (fs.filter g).map fr
  | [] => rfl
  | a :: fs => by
    have ih := keepL_fr g fs
    unfold keepL at ih ⊢
    rw [List.map_cons, List.map_cons, List.zip_cons_cons, List.filter_cons, List.filter_cons]
    cases g a with
    | true => rw [if_pos rfl, if_pos rfl, List.map_cons, List.map_cons, ih]
    | false => rw [if_neg (show ¬ (false = true) from Bool.false_ne_true), if_neg (show ¬ (false = true) from Bool.false_ne_true), ih]
theorem keepL_le (ds : List PyData) (bs : List Bool) : (keepL ds bs).length ≤ ds.length := by
  unfold keepL
  rw [List.length_map]
  refine Nat.le_trans (List.length_filter_le _ _) ?_
  rw [List.length_zip]
  exact Nat.min_le_left _ _
theorem e_lcK {tl : TE} {tt : TT} {bs : List Bool} {j : Nat} (hl : E K tl ρ I (.d (.list ds)) I) (hn : bs.length = ds.length) (hz : ds.length ≤ 100000) (hj : j < ρ.length)
    (ht : ∀ (i : Nat) x b, ds[i]? = some x → bs[i]? = some b → ∀ I, T K tt ((ρ.set j none).set j (some (.d x))) I b I) : E K (tLc (iList K tl) (gName j) tt (tVar j) [j]) ρ I (.d (.list (keepL ds bs))) I := fun G H σ gh en io Q q =>
  hl G H σ gh en io _ fun v G1 H1 g1 gh1 j1 dv => by
    cases dv with
    | lst s r =>
      rename_i a xs
      refine ⟨a, rfl, ⟨_, gh1.seq s⟩, fun D hD => ?_⟩
      have gD : G1 D = none := gh1.free hD
      have lx := dpa_len r
      have nD : ∀ a, I.foot a → ¬ a = D := fun a fa z => by
        obtain ⟨o, ho⟩ := I.own G1 H1 a j1 fa
        rw [z, hD] at ho
        cases ho
      refine lc_list (xs := xs) (fun i H' => ∃ G', Same G1 G' ∧ Same G' H' ∧ I.ok G' H' ∧ (lA K D (keepL (ds.take i) (bs.take i))).ok G' H' ∧ Stp (· = D) G1 (upd H1 D (.lst [])) G' H') ?_ (fun i H' _ ⟨G', a1, a2, _⟩ => (a1.trans a2).seq s) (fun i x H' hx ⟨G', a1, a2, a3, a4, a5⟩ => ?_) (fun H' ⟨G', a1, a2, a3, a4, a5⟩ => ?_)
      · have st := Stp.newM (o := HO.lst []) gh1 hD
        exact ⟨G1, Same.refl _, st.gh, Asn.pure_st st j1, ⟨gD, [], upd_same, .nil⟩, Stp.refl st.gh⟩
      · have hi : i < xs.length := (List.getElem?_eq_some_iff.mp hx).1
        have hi2 : i < ds.length := by omega
        have hi3 : i < bs.length := by omega
        obtain ⟨w, h1, h2⟩ := dpa_get r (List.getElem?_eq_getElem hi2)
        rw [hx] at h1
        obtain rfl := Option.some.inj h1
        refine ⟨by simp [wipe], ?_⟩
        have en' : EnvD K G' ((σ.set j none).set j (some x)) ((ρ.set j none).set j (some (.d ds[i]))) := env_set (d := .d _) (dp_mono a1 _ _ h2) (env_none (env_mono (g1.trans a1) en))
        refine ht i _ _ (List.getElem?_eq_getElem hi2) (List.getElem?_eq_getElem hi3) (((lA K D (keepL (ds.take i) (bs.take i))).and I).and (Asn.since (· = D) G1 (upd H1 D (.lst [])))) G' H' _ a2 en' ⟨⟨a4, a3⟩, a5⟩ _ fun G2 H2 g2 gh2 j2 => ?_
        have eK := keepL_snoc (List.getElem?_eq_getElem hi2) (List.getElem?_eq_getElem hi3)
        obtain ⟨⟨⟨gq, vs, hq, r2⟩, i2⟩, st2⟩ := j2
        by_cases c : bs[i] = true
        · rw [if_pos c]
          refine ⟨x, ?_, vs, hq, ?_, ?_⟩
          · have e : (((σ.set j none).set j (some x)) : List (Option V))[j]? = some (some x) := by
              obtain ⟨v', h3, h4⟩ := env_get (i := j) (d := .d ds[i]) en' (by simp [hj])
              have hlen : j < ((σ.set j none).set j (some x)).length := (List.getElem?_eq_some_iff.mp h3).1
              rw [List.getElem?_set_self (by simpa using hlen)]
            exact e
          · rw [dpa_len r2]
            exact Nat.lt_of_le_of_lt (Nat.le_trans (keepL_le _ _) (by rw [List.length_take]; exact Nat.min_le_right _ _)) (Nat.lt_of_le_of_lt hz (by decide))
          · have st := Stp.store (o := HO.lst (vs ++ [x])) gh2 gq hq
            refine ⟨G2, a1.trans g2, st.gh, I.st _ _ _ _ _ nD st i2, ⟨gq, _, upd_same, ?_⟩, st2.trans st⟩
            rw [eK, if_pos c]
            exact dpa_app r2 (.cons (dp_mono (a1.trans g2) _ _ h2) .nil)
        · rw [if_neg c]
          refine ⟨G2, a1.trans g2, gh2, i2, ⟨gq, vs, hq, ?_⟩, st2⟩
          rw [eK, if_neg c, List.append_nil]
          exact r2
      · obtain ⟨gq, vs, hq, r2⟩ := a4
        have st : Stp (· = D) G' H' (upd G' D (.lst vs)) H' := Stp.frz a2 gq hq
        refine q _ (upd G' D (.lst vs)) H' ((g1.trans a1).trans st.gg) st.gh (I.st _ _ _ _ _ nD st a3) (.lst (.inl (.inl upd_same)) (dp_monos st.gg _ vs ?_))
        rw [show keepL ds bs = keepL (ds.take xs.length) (bs.take xs.length) by rw [List.take_of_length_le (by omega), List.take_of_length_le (by omega)]]
        exact r2
/-! ### lists that change by place -/
/-- x = [a, b, ..], to be changed -/
theorem s_newLA {i : Nat} {ds : List Dat} {xs : List PyData} (hr : A K tr ρ I ds J) (hd : Ds ds xs) (hl : xs.length ≤ 100000) (h : ∀ q, ¬ J.foot q → S K us (ρ.set i (some (.r q))) (lJ K q xs J) k) : S K (tSeq (tAsg (tLst tr) (gName i)) us) ρ I k := fun G H σ D gh en io f =>
  hr G H σ gh en io _ fun vs G1 H1 g1 gh1 j1 dxs => by
    have r : DpAll K G1 vs xs := dva_dp (by rw [← hd.map]; exact dxs)
    refine ⟨by rw [dpa_len r]; exact sz_of hl, fun p hp => ?_⟩
    have s := Stp.newM (o := HO.lst vs) gh1 hp
    have gp : G1 p = none := gh1.free hp
    refine h p (fun z => ?_) G1 _ _ D s.gh (env_set (d := .r p) rfl (env_mono g1 en)) ⟨⟨gp, vs, upd_same, r⟩, Asn.pure_st s j1⟩ (f.mono g1)
    obtain ⟨o, ho⟩ := J.own G1 H1 p j1 z
    rw [ho] at hp
    cases hp
theorem dpa_set {G : Hp} {v : V} (hv : Dp K G v x) : ∀ {vs : List V} {ds : List PyData} (n : Nat), DpAll K G vs ds → DpAll K G (vs.set n v) (ds.set n x)
  | _, _, _, .nil => .nil
  | _, _, 0, .cons _ b => .cons hv b
  | _, _, n + 1, .cons a b => .cons a (dpa_set hv n b)
/-- x[j] = e -/
theorem s_setL {i j : Nat} (he : E K te ρ I (.d x) (lJ K q ds J)) (hi : ρ[i]? = some (some (.r q))) (hb : E K tb ρ (lJ K q ds J) (.i (j : Nat)) (lJ K q ds J)) (hj : j < ds.length) (hf : ¬ J.foot q) :
    S K (tAsg te (gSub (tVar i) tb rSetL)) ρ I (.nx ρ (lJ K q (ds.set j x) J)) := fun G H σ D gh en io f => he G H σ gh en io _ fun v G1 H1 g1 gh1 j1 dv => by
  obtain ⟨w, hw, rfl⟩ := env_get (env_mono g1 en) hi
  refine ⟨.ref q, hw, hb G1 H1 σ gh1 (env_mono g1 en) j1 _ fun u G2 H2 g2 gh2 j2 du => ?_⟩
  obtain rfl := dv_int du
  obtain ⟨⟨gq, vs, hq, r⟩, jo⟩ := j2
  have lv := dpa_len r
  have s := Stp.store (o := HO.lst (vs.set j v)) gh2 gq hq
  refine ⟨q, vs, (j : Int), j, rfl, rfl, hq, ?_, ?_⟩
  · unfold ixN
    rw [if_pos (by omega), if_pos (by omega)]
    simp
  · exact f G2 _ σ (g1.trans g2) s.gh (env_mono (g1.trans g2) en) ⟨⟨gq, _, upd_same, dpa_set (dp_mono g2 _ _ dv) j r⟩, J.st _ _ _ _ _ (fun a fa (z : a = q) => hf (z ▸ fa)) s jo⟩
theorem dv_non {G : Hp} {v : V} (h : Dv K G v (.d .none)) : v = .non := by
  cases h
  rfl
/-- x is None, of data that is told -/
def isNon : PyData → Bool
  | .none => true
  | _ => false
theorem non_dec {G : Hp} {v : V} {x : PyData} (h : Dp K G v x) : decide (v = .non) = isNon x := by
  cases h <;> simp [isNon]
theorem e_isN (ha : E K ta ρ I (.d x) J) (hb : E K tb ρ J (.d .none) L) : E K (tOp (fun x y H Q => y = .non ∧ Q (.bl (decide (x = .non))) H) ta tb) ρ I (.b (isNon x)) L :=
  e_op ha hb fun G H a b gh lo dx dy Q q => ⟨dv_non dy, q _ G H (Same.refl _) gh lo (by rw [non_dec dx]; exact .bl _)⟩
theorem e_notN (ha : E K ta ρ I (.d x) J) (hb : E K tb ρ J (.d .none) L) : E K (tOp (fun x y H Q => y = .non ∧ Q (.bl (!decide (x = .non))) H) ta tb) ρ I (.b (!isNon x)) L :=
  e_op ha hb fun G H a b gh lo dx dy Q q => ⟨dv_non dy, q _ G H (Same.refl _) gh lo (by rw [non_dec dx]; exact .bl _)⟩
theorem s_asgE {g : TG} (h : E K te ρ I d L) (hL : ∀ G H, ¬ L.ok G H) : S K (tAsg te g) ρ I k := fun G H σ D gh en io f => h G H σ gh en io _ fun v G1 H1 g1 gh1 j1 dv => absurd j1 (hL G1 H1)
/-- a constant of the module -/
theorem e_glob {a : Addr} (h : ∀ G, Dp K G (.ref a) x) : E K (tC (.ref a)) ρ I (.d x) I := fun G H σ gh en io Q q => q _ G H (Same.refl _) gh io (h G)
theorem dp_const {a : Addr} {xs : List V} (h : ∀ G, SqT K G a xs) (hx : ∀ G, DpAll K G xs ds) : ∀ G, Dp K G (.ref a) (.tuple ds) := fun G => .tup (h G) (hx G)
theorem const_t {a : Addr} {o : Obj} {its : Array Value} {n : Nat} {xs : List V} (hk : K.lookup a = some o) (hc : o.cls = .type "tuple") (hd : o.data = .seq its n) (hz : its.size ≤ 100) (r : Vals xs its.toList) : ∀ G, SqT K G a xs := fun G => .inr ⟨o, its, n, hk, hc, hd, Nat.le_trans hz (by decide), r⟩
end
end PL

/-! Fractions as rational numbers. Plain Lean. -/
namespace FR
def vl (a : F) : Rat := (a.1 : Rat) / (a.2 : Rat)
theorem cpos {n : Int} (h : 0 < n) : (0 : Rat) < (n : Rat) := Rat.intCast_lt_intCast.mpr h
theorem div_eq {x y n d : Rat} (hy : y ≠ 0) (hd : d ≠ 0) (h : x * d = n * y) : x / y = n / d := by grind
theorem vl_nf {n d : Int} (h : 0 < d) : vl (nf n d) = (n : Rat) / (d : Rat) := by
  have p := cpos (nf_nrm (n := n) h).1
  have q := cpos h
  have z : (((nf n d).1 * d : Int) : Rat) = ((n * (nf n d).2 : Int) : Rat) := by rw [nf_mul1 h]
  rw [Rat.intCast_mul, Rat.intCast_mul] at z
  exact div_eq (by grind) (by grind) z
theorem vl_lf {n d : Int} (h : d ≠ 0) : vl (lf n d) = (n : Rat) / (d : Rat) := by
  unfold lf
  split
  · rw [vl_nf (by omega), Rat.intCast_sub, Rat.intCast_sub]
    have q : (d : Rat) ≠ 0 := fun z => h (Rat.intCast_inj.mp z)
    exact div_eq (by grind) q (by grind)
  · exact vl_nf (by omega)
theorem vl_plus {a b : F} (ha : Nrm a) (hb : Nrm b) : vl (plusM a b) = vl a + vl b := by
  rw [plus_eq ha hb, vl_nf (Int.mul_pos ha.1 hb.1), Rat.intCast_add, Rat.intCast_mul, Rat.intCast_mul, Rat.intCast_mul]
  have p := cpos ha.1
  have q := cpos hb.1
  unfold vl
  have p' : (a.2 : Rat) ≠ 0 := by grind
  have q' : (b.2 : Rat) ≠ 0 := by grind
  grind
theorem vl_minus {a b : F} (ha : Nrm a) (hb : Nrm b) : vl (minusM a b) = vl a - vl b := by
  rw [minus_eq ha hb, vl_nf (Int.mul_pos ha.1 hb.1), Rat.intCast_sub, Rat.intCast_mul, Rat.intCast_mul, Rat.intCast_mul]
  have p := cpos ha.1
  have q := cpos hb.1
  unfold vl
  have p' : (a.2 : Rat) ≠ 0 := by grind
  have q' : (b.2 : Rat) ≠ 0 := by grind
  grind
theorem vl_times {a b : F} (ha : Nrm a) (hb : Nrm b) : vl (timesM a b) = vl a * vl b := by
  rw [times_eq ha hb, vl_nf (Int.mul_pos ha.1 hb.1), Rat.intCast_mul, Rat.intCast_mul]
  have p := cpos ha.1
  have q := cpos hb.1
  unfold vl
  have p' : (a.2 : Rat) ≠ 0 := by grind
  have q' : (b.2 : Rat) ≠ 0 := by grind
  grind
theorem vl_inv {b : F} (hb : Nrm b) (h : b.1 ≠ 0) : vl (invM b) = 1 / vl b := by
  have q := cpos hb.1
  have q' : (b.2 : Rat) ≠ 0 := by grind
  have n' : (b.1 : Rat) ≠ 0 := fun z => h (Rat.intCast_inj.mp z)
  unfold vl invM
  split
  · show ((-b.2 : Int) : Rat) / ((-b.1 : Int) : Rat) = _
    rw [Rat.intCast_neg, Rat.intCast_neg]
    grind
  · show (b.2 : Rat) / (b.1 : Rat) = _
    grind
theorem vl_over {a b : F} (ha : Nrm a) (hb : Nrm b) (h : b.1 ≠ 0) : vl (overM a b) = vl a / vl b := by
  unfold overM
  rw [vl_times ha (inv_nrm hb h), vl_inv hb h]
  grind
theorem div_lt_div {a b c d : Rat} (hb : 0 < b) (hd : 0 < d) : a / b < c / d ↔ a * d < c * b := by
  rw [Rat.div_lt_iff hb]
  have e : c / d * b = c * b / d := by grind
  rw [e, Rat.lt_div_iff hd]
theorem vl_lt {a b : F} (ha : 0 < a.2) (hb : 0 < b.2) : vl a < vl b ↔ a.1 * b.2 < b.1 * a.2 := by
  unfold vl
  rw [div_lt_div (cpos ha) (cpos hb), ← Rat.intCast_mul, ← Rat.intCast_mul, Rat.intCast_lt_intCast]
theorem less_vl {a b : F} (ha : 0 < a.2) (hb : 0 < b.2) : less a b = decide (vl a < vl b) := by
  unfold less
  by_cases c : a.1 * b.2 < b.1 * a.2
  · rw [decide_eq_true c, decide_eq_true ((vl_lt ha hb).mpr c)]
  · rw [decide_eq_false c, decide_eq_false (fun z => c ((vl_lt ha hb).mp z))]
theorem vl_inj {a b : F} (ha : Nrm a) (hb : Nrm b) (h : vl a = vl b) : a = b := by
  have h1 := (vl_lt (a := a) (b := b) ha.1 hb.1)
  have h2 := (vl_lt (a := b) (b := a) hb.1 ha.1)
  refine nrm_one ha hb ?_
  have z1 : ¬ a.1 * b.2 < b.1 * a.2 := fun z => by have := h1.mpr z; grind
  have z2 : ¬ b.1 * a.2 < a.1 * b.2 := fun z => by have := h2.mpr z; grind
  omega
theorem vl_zero : vl (0, 1) = 0 := by unfold vl; grind
theorem vl_one : vl (1, 1) = 1 := by unfold vl; grind
theorem vl_pos {a : F} (ha : 0 < a.2) : 0 < vl a ↔ 0 < a.1 := by
  have := vl_lt (a := (0, 1)) (b := a) (by decide) ha
  rw [vl_zero] at this
  rw [this]
  show (0 * a.2 < a.1 * 1) ↔ _
  omega
theorem vl_neg {a : F} (ha : 0 < a.2) : vl a < 0 ↔ a.1 < 0 := by
  have := vl_lt (a := a) (b := (0, 1)) ha (by decide)
  rw [vl_zero] at this
  rw [this]
  show (a.1 * 1 < 0 * a.2) ↔ _
  omega
theorem nrm_zero : Nrm ((0, 1) : F) := ⟨by decide, by decide⟩
theorem nrm_unit : Nrm ((1, 1) : F) := ⟨by decide, by decide⟩
/-! ### the law's own sort -/
def ins (x : F) (out : List F) : List F :=
  let at_ := (out.filter fun y => less y x).length
  if at_ = out.length ∨ out[at_]? ≠ some x then out.take at_ ++ [x] ++ out.drop at_ else out
def sortF (xs : List F) : List F := xs.foldl (fun o x => ins x o) []
def Asc (xs : List F) : Prop := xs.Pairwise fun a b => vl a < vl b
theorem asc_cut {x : F} (hx : 0 < x.2) : ∀ {out : List F}, Asc out → (∀ y ∈ out, 0 < y.2) → out.take (out.filter fun y => less y x).length = out.filter (fun y => less y x) ∧ ∀ y ∈ out.drop (out.filter fun y => less y x).length, vl x ≤ vl y
  | [], _, _ => ⟨rfl, fun y h => by simp at h⟩
  | h :: out, ha, hp => by
    obtain ⟨h1, h2⟩ := List.pairwise_cons.mp ha
    have hh := hp h List.mem_cons_self
    have ih := asc_cut hx (out := out) h2 fun y hy => hp y (List.mem_cons_of_mem _ hy)
    rw [List.filter_cons]
    by_cases c : less h x = true
    · rw [if_pos c, List.length_cons, List.take_succ_cons, List.drop_succ_cons]
      exact ⟨by rw [ih.1], ih.2⟩
    · rw [if_neg c]
      have c' : ¬ vl h < vl x := by
        rw [less_vl hh hx] at c
        simpa using c
      have e : out.filter (fun y => less y x) = [] := by
        rw [List.filter_eq_nil_iff]
        intro y hy
        rw [less_vl (hp y (List.mem_cons_of_mem _ hy)) hx]
        have := h1 y hy
        simp
        grind
      rw [e]
      refine ⟨rfl, fun y hy => ?_⟩
      rcases List.mem_cons.mp hy with rfl | hy
      · grind
      · have := h1 y hy
        grind
theorem ins_ok {x : F} {out : List F} (hx : Nrm x) (ha : Asc out) (hp : ∀ y ∈ out, Nrm y) : Asc (ins x out) ∧ ∀ y, y ∈ ins x out ↔ y = x ∨ y ∈ out := by
  obtain ⟨h1, h2⟩ := asc_cut hx.1 ha fun y hy => (hp y hy).1
  unfold ins
  simp only
  generalize hn : (out.filter fun y => less y x).length = n at *
  have eo : out = out.take n ++ out.drop n := (List.take_append_drop n out).symm
  have lt : ∀ y ∈ out.take n, vl y < vl x := fun y hy => by
    rw [h1] at hy
    have hm := List.mem_filter.mp hy
    rw [less_vl (hp y hm.1).1 hx.1] at hm
    simpa using hm.2
  by_cases c : n = out.length ∨ out[n]? ≠ some x
  · rw [if_pos c]
    have gt : ∀ y ∈ out.drop n, vl x < vl y := by
      rcases c with c | c
      · intro y hy
        rw [c, List.drop_length] at hy
        simp at hy
      · -- the first one behind is not x, so it is greater
        have hd : Asc (out.drop n) := List.Pairwise.sublist (List.drop_sublist n out) ha
        match e : out.drop n, hd with
        | [], _ => intro y hy; simp at hy
        | z :: r, hd =>
          have hz : z ∈ out := List.mem_of_mem_drop (by rw [e]; exact List.mem_cons_self)
          have ez : out[n]? = some z := by
            have q : (out.drop n)[0]? = some z := by rw [e]; rfl
            rw [List.getElem?_drop] at q
            simpa using q
          have nz : z ≠ x := fun q => c (by rw [ez, q])
          have g1 := h2 z (by rw [e]; exact List.mem_cons_self)
          have g2 : vl z ≠ vl x := fun q => nz (vl_inj (hp z hz) hx q)
          have g3 : vl x < vl z := by grind
          intro y hy
          rcases List.mem_cons.mp hy with rfl | hy
          · exact g3
          · have := (List.pairwise_cons.mp hd).1 y hy
            grind
    refine ⟨?_, fun y => ?_⟩
    · unfold Asc
      rw [List.append_assoc, List.pairwise_append]
      refine ⟨List.Pairwise.sublist (List.take_sublist n out) ha, ?_, fun a ha' b hb => ?_⟩
      · rw [List.singleton_append, List.pairwise_cons]
        exact ⟨gt, List.Pairwise.sublist (List.drop_sublist n out) ha⟩
      · rcases List.mem_append.mp hb with hb | hb
        · rw [List.mem_singleton.mp hb]
          exact lt a ha'
        · have := lt a ha'
          have := gt b hb
          grind
    · rw [List.mem_append, List.mem_append, List.mem_singleton]
      constructor
      · rintro ((h | h) | h)
        · exact .inr (List.mem_of_mem_take h)
        · exact .inl h
        · exact .inr (List.mem_of_mem_drop h)
      · rintro (h | h)
        · exact .inl (.inr h)
        · rw [eo] at h
          rcases List.mem_append.mp h with h | h
          · exact .inl (.inl h)
          · exact .inr h
  · rw [if_neg c]
    refine ⟨ha, fun y => ⟨fun h => .inr h, fun h => ?_⟩⟩
    rcases h with rfl | h
    · have q : out[n]? = some y := by
        refine Classical.byContradiction fun z => c (.inr z)
      exact List.mem_of_getElem? q
    · exact h
theorem sort_snoc (xs : List F) (x : F) : sortF (xs ++ [x]) = ins x (sortF xs) := by
  unfold sortF
  rw [List.foldl_append]
  rfl
theorem foldl_ok : ∀ (xs out : List F), (∀ y ∈ xs, Nrm y) → Asc out → (∀ y ∈ out, Nrm y) → Asc (xs.foldl (fun o x => ins x o) out) ∧ ∀ y, y ∈ xs.foldl (fun o x => ins x o) out ↔ y ∈ xs ∨ y ∈ out
  | [], out, _, ha, _ => ⟨ha, fun y => by simp⟩
  | x :: xs, out, hx, ha, hp => by
    obtain ⟨h1, h2⟩ := ins_ok (hx x List.mem_cons_self) ha hp
    obtain ⟨h3, h4⟩ := foldl_ok xs (ins x out) (fun y hy => hx y (List.mem_cons_of_mem _ hy)) h1 fun y hy => by
      rcases (h2 y).mp hy with rfl | hy
      · exact hx _ List.mem_cons_self
      · exact hp y hy
    refine ⟨h3, fun y => ?_⟩
    rw [List.foldl_cons, h4, h2, List.mem_cons]
    constructor
    · rintro (h | h | h)
      · exact .inl (.inr h)
      · exact .inl (.inl h)
      · exact .inr h
    · rintro ((h | h) | h)
      · exact .inr (.inl h)
      · exact .inl h
      · exact .inr (.inr h)
theorem sort_ok {xs : List F} (h : ∀ y ∈ xs, Nrm y) : Asc (sortF xs) ∧ ∀ y, y ∈ sortF xs ↔ y ∈ xs := by
  obtain ⟨h1, h2⟩ := foldl_ok xs [] h List.Pairwise.nil fun y hy => by simp at hy
  exact ⟨h1, fun y => by rw [show sortF xs = xs.foldl (fun o x => ins x o) [] from rfl, h2]; simp⟩
end FR

/-! Spans of times and the least and greatest of good moments. Plain Lean. -/
namespace FR
theorem asc_head {x : F} : ∀ {xs : List F}, Asc xs → x ∈ xs → (∀ y ∈ xs, vl x ≤ vl y) → xs[0]? = some x
  | [], _, h, _ => by simp at h
  | h :: xs, ha, hx, hy => by
    rcases List.mem_cons.mp hx with rfl | hx
    · rfl
    · have h1 := (List.pairwise_cons.mp ha).1 x hx
      have h2 := hy h List.mem_cons_self
      exfalso
      grind
theorem asc_last {x : F} : ∀ {xs : List F}, Asc xs → x ∈ xs → (∀ y ∈ xs, vl y ≤ vl x) → xs.getLast? = some x
  | [], _, h, _ => by simp at h
  | [h], _, hx, _ => by
    rw [List.mem_singleton.mp hx]
    rfl
  | h :: g :: xs, ha, hx, hy => by
    obtain ⟨h1, h2⟩ := List.pairwise_cons.mp ha
    have hx' : x ∈ g :: xs := by
      rcases List.mem_cons.mp hx with rfl | hx
      · have z1 := h1 g List.mem_cons_self
        have z2 := hy g (List.mem_cons_of_mem _ List.mem_cons_self)
        exfalso
        grind
      · exact hx
    rw [List.getLast?_cons_cons]
    exact asc_last h2 hx' fun y hm => hy y (List.mem_cons_of_mem _ hm)
def more (a b : F) : Bool := less b a
/-- the greater, the lesser of two, as the program takes them -/
def mx (a b : F) : F := bestL more a [a, b]
def mn (a b : F) : F := bestL less a [a, b]
theorem mx_eq (a b : F) (ha : 0 < a.2) (hb : 0 < b.2) : (mx a b = a ∧ vl b ≤ vl a) ∨ (mx a b = b ∧ vl a ≤ vl b) := by
  have e : mx a b = if more b (if more a a then a else a) then b else (if more a a then a else a) := rfl
  have e2 : (if more a a = true then a else a) = a := by split <;> rfl
  rw [e, e2]
  unfold more
  rw [less_vl ha hb]
  by_cases c : vl a < vl b
  · rw [decide_eq_true c, if_pos rfl]
    exact .inr ⟨rfl, by grind⟩
  · rw [decide_eq_false c, if_neg (by decide)]
    exact .inl ⟨rfl, by grind⟩
theorem mn_eq (a b : F) (ha : 0 < a.2) (hb : 0 < b.2) : (mn a b = a ∧ vl a ≤ vl b) ∨ (mn a b = b ∧ vl b ≤ vl a) := by
  have e : mn a b = if less b (if less a a then a else a) then b else (if less a a then a else a) := rfl
  have e2 : (if less a a = true then a else a) = a := by split <;> rfl
  rw [e, e2]
  rw [less_vl hb ha]
  by_cases c : vl b < vl a
  · rw [decide_eq_true c, if_pos rfl]
    exact .inr ⟨rfl, by grind⟩
  · rw [decide_eq_false c, if_neg (by decide)]
    exact .inl ⟨rfl, by grind⟩
def fstM (sp : List (F × F)) : F := sp.foldl (fun f s => mx f s.1) (0, 1)
def lstM (sp : List (F × F)) : F := sp.foldl (fun f s => mn f s.2) (1, 1)
theorem fst_ok : ∀ (sp : List (F × F)) (f : F), 0 < f.2 → (∀ s ∈ sp, 0 < s.1.2) → (sp.foldl (fun f s => mx f s.1) f = f ∨ ∃ s ∈ sp, sp.foldl (fun f s => mx f s.1) f = s.1) ∧ vl f ≤ vl (sp.foldl (fun f s => mx f s.1) f) ∧ ∀ s ∈ sp, vl s.1 ≤ vl (sp.foldl (fun f s => mx f s.1) f)
  | [], f, _, _ => ⟨.inl rfl, by simp, fun s h => by simp at h⟩
  | s :: sp, f, hf, hs => by
    have h1 := hs s List.mem_cons_self
    rw [List.foldl_cons]
    have hm := mx_eq f s.1 hf h1
    have hp : 0 < (mx f s.1).2 := by
      rcases hm with ⟨e, _⟩ | ⟨e, _⟩ <;> rw [e] <;> assumption
    obtain ⟨i1, i2, i3⟩ := fst_ok sp (mx f s.1) hp fun t ht => hs t (List.mem_cons_of_mem _ ht)
    generalize sp.foldl (fun f s => mx f s.1) (mx f s.1) = r at *
    refine ⟨?_, ?_, fun t ht => ?_⟩
    · rcases i1 with e | ⟨t, ht, e⟩
      · rcases hm with ⟨e2, _⟩ | ⟨e2, _⟩
        · exact .inl (e.trans e2)
        · exact .inr ⟨s, List.mem_cons_self, e.trans e2⟩
      · exact .inr ⟨t, List.mem_cons_of_mem _ ht, e⟩
    · rcases hm with ⟨e2, h2⟩ | ⟨e2, h2⟩ <;> rw [e2] at i2 <;> grind
    · rcases List.mem_cons.mp ht with rfl | ht
      · rcases hm with ⟨e2, h2⟩ | ⟨e2, h2⟩ <;> rw [e2] at i2 <;> grind
      · exact i3 t ht
theorem lst_ok : ∀ (sp : List (F × F)) (f : F), 0 < f.2 → (∀ s ∈ sp, 0 < s.2.2) → (sp.foldl (fun f s => mn f s.2) f = f ∨ ∃ s ∈ sp, sp.foldl (fun f s => mn f s.2) f = s.2) ∧ vl (sp.foldl (fun f s => mn f s.2) f) ≤ vl f ∧ ∀ s ∈ sp, vl (sp.foldl (fun f s => mn f s.2) f) ≤ vl s.2
  | [], f, _, _ => ⟨.inl rfl, by simp, fun s h => by simp at h⟩
  | s :: sp, f, hf, hs => by
    have h1 := hs s List.mem_cons_self
    rw [List.foldl_cons]
    have hm := mn_eq f s.2 hf h1
    have hp : 0 < (mn f s.2).2 := by
      rcases hm with ⟨e, _⟩ | ⟨e, _⟩ <;> rw [e] <;> assumption
    obtain ⟨i1, i2, i3⟩ := lst_ok sp (mn f s.2) hp fun t ht => hs t (List.mem_cons_of_mem _ ht)
    generalize sp.foldl (fun f s => mn f s.2) (mn f s.2) = r at *
    refine ⟨?_, ?_, fun t ht => ?_⟩
    · rcases i1 with e | ⟨t, ht, e⟩
      · rcases hm with ⟨e2, _⟩ | ⟨e2, _⟩
        · exact .inl (e.trans e2)
        · exact .inr ⟨s, List.mem_cons_self, e.trans e2⟩
      · exact .inr ⟨t, List.mem_cons_of_mem _ ht, e⟩
    · rcases hm with ⟨e2, h2⟩ | ⟨e2, h2⟩ <;> rw [e2] at i2 <;> grind
    · rcases List.mem_cons.mp ht with rfl | ht
      · rcases hm with ⟨e2, h2⟩ | ⟨e2, h2⟩ <;> rw [e2] at i2 <;> grind
      · exact i3 t ht
/-- what a row of good moments tells -/
def dueM (good : List F) : Option (F × F) := match good[0]?, good.getLast? with
  | some a, some b => some (a, b)
  | _, _ => none
def spanM (sp : List (F × F)) : Option (F × F) := if less (lstM sp) (fstM sp) then none else some (fstM sp, lstM sp)
theorem spans_due {sp : List (F × F)} {ms : List F} {p : F → Bool} (hsp : ∀ s ∈ sp, Nrm s.1 ∧ Nrm s.2) (hms : ∀ m ∈ ms, Nrm m ∧ 0 ≤ vl m ∧ vl m ≤ 1) (h0 : (0, 1) ∈ ms) (h1 : (1, 1) ∈ ms)
    (hp : ∀ t : F, Nrm t → (p t = true ↔ ∀ s ∈ sp, vl s.1 ≤ vl t ∧ vl t ≤ vl s.2)) (hm1 : ∀ s ∈ sp, 0 ≤ vl s.1 → vl s.1 ≤ 1 → s.1 ∈ ms) (hm2 : ∀ s ∈ sp, 0 ≤ vl s.2 → vl s.2 ≤ 1 → s.2 ∈ ms) :
    spanM sp = dueM ((sortF ms).filter p) := by
  obtain ⟨f1, f2, f3⟩ := fst_ok sp (0, 1) (by decide) fun s hs => (hsp s hs).1.1
  obtain ⟨l1, l2, l3⟩ := lst_ok sp (1, 1) (by decide) fun s hs => (hsp s hs).2.1
  change fstM sp = (0, 1) ∨ ∃ s ∈ sp, fstM sp = s.1 at f1
  change vl (0, 1) ≤ vl (fstM sp) at f2
  change ∀ s ∈ sp, vl s.1 ≤ vl (fstM sp) at f3
  change lstM sp = (1, 1) ∨ ∃ s ∈ sp, lstM sp = s.2 at l1
  change vl (lstM sp) ≤ vl (1, 1) at l2
  change ∀ s ∈ sp, vl (lstM sp) ≤ vl s.2 at l3
  have nf : Nrm (fstM sp) := by
    rcases f1 with e | ⟨s, hs, e⟩
    · rw [e]; exact nrm_zero
    · rw [e]; exact (hsp s hs).1
  have nl : Nrm (lstM sp) := by
    rcases l1 with e | ⟨s, hs, e⟩
    · rw [e]; exact nrm_unit
    · rw [e]; exact (hsp s hs).2
  unfold spanM
  generalize fstM sp = f at *
  generalize lstM sp = l at *
  rw [vl_zero] at f2
  rw [vl_one] at l2
  obtain ⟨sa, sm⟩ := sort_ok (xs := ms) fun y hy => (hms y hy).1
  have ga : Asc ((sortF ms).filter p) := List.Pairwise.sublist List.filter_sublist sa
  have gm : ∀ t, t ∈ (sortF ms).filter p ↔ t ∈ ms ∧ p t = true := fun t => by rw [List.mem_filter, sm]
  have gb : ∀ t, t ∈ (sortF ms).filter p → vl f ≤ vl t ∧ vl t ≤ vl l := fun t ht => by
    obtain ⟨h2, h3⟩ := (gm t).mp ht
    obtain ⟨h4, h5, h6⟩ := hms t h2
    have h7 := (hp t h4).mp h3
    constructor
    · rcases f1 with e | ⟨s, hs, e⟩
      · rw [e, vl_zero]
        exact h5
      · rw [e]
        exact (h7 s hs).1
    · rcases l1 with e | ⟨s, hs, e⟩
      · rw [e, vl_one]
        exact h6
      · rw [e]
        exact (h7 s hs).2
  generalize (sortF ms).filter p = good at *
  by_cases c : vl l < vl f
  · rw [less_vl nl.1 nf.1, decide_eq_true c, if_pos rfl]
    match good, gb with
    | [], _ => rfl
    | t :: r, gb =>
      have := gb t List.mem_cons_self
      exfalso
      grind
  · rw [less_vl nl.1 nf.1, decide_eq_false c, if_neg (by decide)]
    have fm : f ∈ good := (gm f).mpr ⟨by
      rcases f1 with e | ⟨s, hs, e⟩
      · rw [e]; exact h0
      · rw [e]
        rw [e] at f2 c
        exact hm1 s hs f2 (by grind), (hp f nf).mpr fun s hs => ⟨f3 s hs, by have := l3 s hs; grind⟩⟩
    have lm : l ∈ good := (gm l).mpr ⟨by
      rcases l1 with e | ⟨s, hs, e⟩
      · rw [e]; exact h1
      · rw [e]
        rw [e] at l2 c
        exact hm2 s hs (by grind) l2, (hp l nl).mpr fun s hs => ⟨by have := f3 s hs; grind, l3 s hs⟩⟩
    unfold dueM
    rw [asc_head ga fm fun y hy => (gb y hy).1, asc_last ga lm fun y hy => (gb y hy).2]
/-! ### a ray against a box, axis by axis -/
structure Ax where
  l : F
  h : F
  o : F
  w : F
structure Ax.Ok (a : Ax) : Prop where
  l : Nrm a.l
  h : Nrm a.h
  o : Nrm a.o
  w : Nrm a.w
def Ax.span (a : Ax) : F × F := if 0 < a.w.1 then (overM (minusM a.l a.o) a.w, overM (minusM a.h a.o) a.w) else (overM (minusM a.h a.o) a.w, overM (minusM a.l a.o) a.w)
def Ax.out (a : Ax) : Bool := a.w.1 == 0 && (decide (0 < (minusM a.l a.o).1) || decide ((minusM a.h a.o).1 < 0))
def Ax.spans (a : Ax) : List (F × F) := if a.w.1 = 0 then [] else [a.span]
def Ax.inside (a : Ax) (t : F) : Bool := !(less (lplus a.o (ltimes a.w t)) a.l || less a.h (lplus a.o (ltimes a.w t)))
def tm (line : F) (a : Ax) : F := lf ((lminus line a.o).1 * a.w.2) ((lminus line a.o).2 * a.w.1)
def keepT (t : F) : List F := if !less t (0, 1) && !less (1, 1) t then [t] else []
def Ax.moms (a : Ax) : List F := if a.w.1 = 0 then [] else keepT (tm a.l a) ++ keepT (tm a.h a)
theorem tm_eq {line : F} {a : Ax} (hl : Nrm line) (ha : a.Ok) (hw : a.w.1 ≠ 0) : tm line a = overM (minusM line a.o) a.w := by
  have n1 := minus_nrm hl ha.o
  have e := lminus_eq hl ha.o
  unfold tm
  rw [e]
  refine vl_inj (lf_nrm (Int.mul_ne_zero (by have := n1.1; omega) hw)) (over_nrm n1 ha.w hw) ?_
  rw [vl_lf (Int.mul_ne_zero (by have := n1.1; omega) hw), vl_over n1 ha.w hw, Rat.intCast_mul, Rat.intCast_mul]
  unfold vl
  have p := cpos n1.1
  have q := cpos ha.w.1
  have p' : ((minusM line a.o).2 : Rat) ≠ 0 := by grind
  have q' : (a.w.2 : Rat) ≠ 0 := by grind
  have r' : (a.w.1 : Rat) ≠ 0 := fun z => hw (Rat.intCast_inj.mp z)
  grind
theorem inside_iff {a : Ax} (ha : a.Ok) {t : F} (ht : Nrm t) : a.inside t = true ↔ vl a.l ≤ vl a.o + vl a.w * vl t ∧ vl a.o + vl a.w * vl t ≤ vl a.h := by
  have n1 := times_nrm ha.w ht
  have n2 := plus_nrm ha.o n1
  unfold Ax.inside
  rw [ltimes_eq ha.w ht, lplus_eq ha.o n1, less_vl n2.1 ha.l.1, less_vl ha.h.1 n2.1, vl_plus ha.o n1, vl_times ha.w ht]
  simp only [Bool.not_eq_true', Bool.or_eq_false_iff, decide_eq_false_iff_not]
  constructor
  · rintro ⟨h1, h2⟩
    exact ⟨by grind, by grind⟩
  · rintro ⟨h1, h2⟩
    exact ⟨by grind, by grind⟩
theorem div_le_pos {x t w : Rat} (hw : 0 < w) : x / w ≤ t ↔ x ≤ w * t := by
  have h := Rat.lt_div_iff (a := t) (b := x) hw
  constructor
  · intro z
    have : ¬ t * w < x := fun q => by have := h.mpr q; grind
    grind
  · intro z
    have : ¬ t < x / w := fun q => by have := h.mp q; grind
    grind
theorem le_div_pos {x t w : Rat} (hw : 0 < w) : t ≤ x / w ↔ w * t ≤ x := by
  have h := Rat.div_lt_iff (a := x) (b := w) (c := t) hw
  constructor
  · intro z
    have : ¬ x < t * w := fun q => by have := h.mpr q; grind
    grind
  · intro z
    have : ¬ x / w < t := fun q => by have := h.mp q; grind
    grind
theorem div_neg_neg {x w : Rat} (hw : w ≠ 0) : x / w = (-x) / (-w) := by
  have : -w ≠ 0 := by grind
  grind
theorem span_iff {a : Ax} (ha : a.Ok) (hw : a.w.1 ≠ 0) (t : F) (ht : Nrm t) : a.inside t = true ↔ vl a.span.1 ≤ vl t ∧ vl t ≤ vl a.span.2 := by
  have nl := minus_nrm ha.l ha.o
  have nh := minus_nrm ha.h ha.o
  rw [inside_iff ha ht]
  have wne : vl a.w ≠ 0 := fun z => by
    have h1 := vl_pos ha.w.1
    have h2 := vl_neg ha.w.1
    have : 0 < a.w.1 ∨ a.w.1 < 0 := by omega
    rcases this with c | c
    · have := h1.mpr c; grind
    · have := h2.mpr c; grind
  unfold Ax.span
  by_cases c : 0 < a.w.1
  · rw [if_pos c]
    have wp := (vl_pos ha.w.1).mpr c
    show _ ↔ vl (overM (minusM a.l a.o) a.w) ≤ vl t ∧ vl t ≤ vl (overM (minusM a.h a.o) a.w)
    rw [vl_over nl ha.w hw, vl_over nh ha.w hw, vl_minus ha.l ha.o, vl_minus ha.h ha.o, div_le_pos wp, le_div_pos wp]
    constructor <;> rintro ⟨h1, h2⟩ <;> exact ⟨by grind, by grind⟩
  · rw [if_neg c]
    have wn := (vl_neg ha.w.1).mpr (show a.w.1 < 0 by omega)
    show _ ↔ vl (overM (minusM a.h a.o) a.w) ≤ vl t ∧ vl t ≤ vl (overM (minusM a.l a.o) a.w)
    have wp : 0 < -vl a.w := by grind
    rw [vl_over nl ha.w hw, vl_over nh ha.w hw, vl_minus ha.l ha.o, vl_minus ha.h ha.o, div_neg_neg wne, div_neg_neg (x := vl a.l - vl a.o) wne, div_le_pos wp, le_div_pos wp]
    constructor <;> rintro ⟨h1, h2⟩ <;> exact ⟨by grind, by grind⟩
theorem keep_mem {t x : F} (ht : 0 < t.2) : x ∈ keepT t ↔ x = t ∧ 0 ≤ vl t ∧ vl t ≤ 1 := by
  unfold keepT
  rw [less_vl ht (by decide), less_vl (by decide) ht, vl_zero, vl_one]
  by_cases c1 : vl t < 0
  · rw [decide_eq_true c1]
    simp
    intro _ h
    grind
  · by_cases c2 : 1 < vl t
    · rw [decide_eq_true c2]
      simp
      intro _ h
      grind
    · rw [decide_eq_false c1, decide_eq_false c2]
      simp
      intro _
      constructor <;> grind
def rayM (a b : Ax) : Option (F × F) := if a.out || b.out then none else spanM (a.spans ++ b.spans)
theorem ax_ok {a : Ax} (ha : a.Ok) (ho : a.out = false) : (∀ s ∈ a.spans, Nrm s.1 ∧ Nrm s.2) ∧ (∀ m ∈ a.moms, Nrm m ∧ 0 ≤ vl m ∧ vl m ≤ 1) ∧ (∀ t : F, Nrm t → (a.inside t = true ↔ ∀ s ∈ a.spans, vl s.1 ≤ vl t ∧ vl t ≤ vl s.2)) ∧
    (∀ s ∈ a.spans, 0 ≤ vl s.1 → vl s.1 ≤ 1 → s.1 ∈ a.moms) ∧ (∀ s ∈ a.spans, 0 ≤ vl s.2 → vl s.2 ≤ 1 → s.2 ∈ a.moms) := by
  have nl := minus_nrm ha.l ha.o
  have nh := minus_nrm ha.h ha.o
  unfold Ax.spans Ax.moms
  by_cases c : a.w.1 = 0
  · rw [if_pos c, if_pos c]
    refine ⟨fun s h => by simp at h, fun s h => by simp at h, fun t ht => ⟨fun _ s h => by simp at h, fun _ => ?_⟩, fun s h => by simp at h, fun s h => by simp at h⟩
    rw [inside_iff ha ht]
    unfold Ax.out at ho
    rw [c] at ho
    simp only [BEq.rfl, Bool.true_and, Bool.or_eq_false_iff, decide_eq_false_iff_not] at ho
    have h1 := vl_pos nl.1
    have h2 := vl_neg nh.1
    rw [vl_minus ha.l ha.o] at h1
    rw [vl_minus ha.h ha.o] at h2
    have w0 : vl a.w = 0 := by
      unfold vl
      rw [c]
      grind
    rw [w0]
    constructor
    · have : ¬ 0 < vl a.l - vl a.o := fun z => ho.1 (h1.mp z)
      grind
    · have : ¬ vl a.h - vl a.o < 0 := fun z => ho.2 (h2.mp z)
      grind
  · rw [if_neg c, if_neg c, tm_eq ha.l ha c, tm_eq ha.h ha c]
    have n1 := over_nrm nl ha.w c
    have n2 := over_nrm nh ha.w c
    have ns : Nrm a.span.1 ∧ Nrm a.span.2 := by
      unfold Ax.span
      split
      · exact ⟨n1, n2⟩
      · exact ⟨n2, n1⟩
    have sm : ∀ x, x = a.span.1 ∨ x = a.span.2 → 0 ≤ vl x → vl x ≤ 1 → x ∈ keepT (overM (minusM a.l a.o) a.w) ++ keepT (overM (minusM a.h a.o) a.w) := fun x hx h1 h2 => by
      rw [List.mem_append, keep_mem n1.1, keep_mem n2.1]
      unfold Ax.span at hx
      split at hx
      · rcases hx with rfl | rfl
        · exact .inl ⟨rfl, h1, h2⟩
        · exact .inr ⟨rfl, h1, h2⟩
      · rcases hx with rfl | rfl
        · exact .inr ⟨rfl, h1, h2⟩
        · exact .inl ⟨rfl, h1, h2⟩
    refine ⟨fun s hs => by rw [List.mem_singleton.mp hs]; exact ns, fun m hm => ?_, fun t ht => ?_, fun s hs h1 h2 => ?_, fun s hs h1 h2 => ?_⟩
    · rcases List.mem_append.mp hm with hm | hm
      · obtain ⟨rfl, h1, h2⟩ := (keep_mem n1.1).mp hm
        exact ⟨n1, h1, h2⟩
      · obtain ⟨rfl, h1, h2⟩ := (keep_mem n2.1).mp hm
        exact ⟨n2, h1, h2⟩
    · rw [span_iff ha c t ht]
      constructor
      · intro h s hs
        rw [List.mem_singleton.mp hs]
        exact h
      · intro h
        exact h _ (List.mem_singleton.mpr rfl)
    · rw [List.mem_singleton.mp hs] at h1 h2 ⊢
      exact sm _ (.inl rfl) h1 h2
    · rw [List.mem_singleton.mp hs] at h1 h2 ⊢
      exact sm _ (.inr rfl) h1 h2
theorem out_none {a : Ax} (ha : a.Ok) (ho : a.out = true) (t : F) (ht : Nrm t) : a.inside t = false := by
  have nl := minus_nrm ha.l ha.o
  have nh := minus_nrm ha.h ha.o
  refine Bool.eq_false_iff.mpr fun z => ?_
  rw [inside_iff ha ht] at z
  unfold Ax.out at ho
  simp only [Bool.and_eq_true, beq_iff_eq, Bool.or_eq_true, decide_eq_true_eq] at ho
  obtain ⟨c, ho⟩ := ho
  have h1 := vl_pos nl.1
  have h2 := vl_neg nh.1
  rw [vl_minus ha.l ha.o] at h1
  rw [vl_minus ha.h ha.o] at h2
  have w0 : vl a.w = 0 := by
    unfold vl
    rw [c]
    grind
  rw [w0] at z
  rcases ho with ho | ho
  · have := h1.mpr ho
    grind
  · have := h2.mpr ho
    grind
theorem moms_ok {a : Ax} (ha : a.Ok) : ∀ m ∈ a.moms, Nrm m ∧ 0 ≤ vl m ∧ vl m ≤ 1 := fun m hm => by
  have nl := minus_nrm ha.l ha.o
  have nh := minus_nrm ha.h ha.o
  unfold Ax.moms at hm
  by_cases c : a.w.1 = 0
  · rw [if_pos c] at hm
    simp at hm
  · rw [if_neg c, tm_eq ha.l ha c, tm_eq ha.h ha c] at hm
    have n1 := over_nrm nl ha.w c
    have n2 := over_nrm nh ha.w c
    rcases List.mem_append.mp hm with hm | hm
    · obtain ⟨rfl, h1, h2⟩ := (keep_mem n1.1).mp hm
      exact ⟨n1, h1, h2⟩
    · obtain ⟨rfl, h1, h2⟩ := (keep_mem n2.1).mp hm
      exact ⟨n2, h1, h2⟩
/-- the program's answer is what the good moments tell -/
theorem ray_due {a b : Ax} (ha : a.Ok) (hb : b.Ok) : rayM a b = dueM ((sortF ([(0, 1), (1, 1)] ++ a.moms ++ b.moms)).filter fun t => a.inside t && b.inside t) := by
  have hms : ∀ m ∈ [(0, 1), (1, 1)] ++ a.moms ++ b.moms, Nrm m ∧ 0 ≤ vl m ∧ vl m ≤ 1 := fun m hm => by
    rcases List.mem_append.mp hm with hm | hm
    · rcases List.mem_append.mp hm with hm | hm
      · rcases List.mem_cons.mp hm with rfl | hm
        · exact ⟨nrm_zero, by rw [vl_zero]; grind, by rw [vl_zero]; grind⟩
        · rw [List.mem_singleton.mp hm]
          exact ⟨nrm_unit, by rw [vl_one]; grind, by rw [vl_one]; grind⟩
      · exact moms_ok ha m hm
    · exact moms_ok hb m hm
  have empty : ∀ p : F → Bool, (∀ t, Nrm t → p t = false) → none = dueM ((sortF ([(0, 1), (1, 1)] ++ a.moms ++ b.moms)).filter p) := fun p hp => by
    have e : (sortF ([(0, 1), (1, 1)] ++ a.moms ++ b.moms)).filter p = [] := by
      rw [List.filter_eq_nil_iff]
      intro t ht
      rw [(sort_ok (fun y hy => (hms y hy).1)).2] at ht
      rw [hp t (hms t ht).1]
      decide
    rw [e]
    rfl
  unfold rayM
  cases oa : a.out with
  | true => exact empty _ fun t ht => by rw [out_none ha oa t ht]; rfl
  | false =>
    cases ob : b.out with
    | true => exact empty _ fun t ht => by rw [out_none hb ob t ht, Bool.and_false]
    | false =>
      obtain ⟨a1, a2, a3, a4, a5⟩ := ax_ok ha oa
      obtain ⟨b1, b2, b3, b4, b5⟩ := ax_ok hb ob
      rw [if_neg (by decide)]
      refine spans_due (fun s hs => ?_) hms (by simp) (by simp) (fun t ht => ?_) (fun s hs h1 h2 => ?_) (fun s hs h1 h2 => ?_)
      · rcases List.mem_append.mp hs with hs | hs
        · exact a1 s hs
        · exact b1 s hs
      · rw [Bool.and_eq_true, a3 t ht, b3 t ht]
        constructor
        · rintro ⟨h1, h2⟩ s hs
          rcases List.mem_append.mp hs with hs | hs
          · exact h1 s hs
          · exact h2 s hs
        · intro h
          exact ⟨fun s hs => h s (List.mem_append_left _ hs), fun s hs => h s (List.mem_append_right _ hs)⟩
      · rcases List.mem_append.mp hs with hs | hs
        · exact List.mem_append_left _ (List.mem_append_right _ (a4 s hs h1 h2))
        · exact List.mem_append_right _ (b4 s hs h1 h2)
      · rcases List.mem_append.mp hs with hs | hs
        · exact List.mem_append_left _ (List.mem_append_right _ (a5 s hs h1 h2))
        · exact List.mem_append_right _ (b5 s hs h1 h2)
end FR

/-! Two moving boxes: spans of times against the gaps between moments. Plain Lean. -/
namespace FR
theorem nat_head {x : Nat} : ∀ {xs : List Nat}, xs.Pairwise (· < ·) → x ∈ xs → (∀ y ∈ xs, x ≤ y) → xs[0]? = some x
  | [], _, h, _ => by simp at h
  | h :: xs, ha, hx, hy => by
    rcases List.mem_cons.mp hx with rfl | hx
    · rfl
    · have h1 := (List.pairwise_cons.mp ha).1 x hx
      have h2 := hy h List.mem_cons_self
      omega
theorem nat_last {x : Nat} : ∀ {xs : List Nat}, xs.Pairwise (· < ·) → x ∈ xs → (∀ y ∈ xs, y ≤ x) → xs.getLast? = some x
  | [], _, h, _ => by simp at h
  | [h], _, hx, _ => by
    rw [List.mem_singleton.mp hx]
    rfl
  | h :: g :: xs, ha, hx, hy => by
    obtain ⟨h1, h2⟩ := List.pairwise_cons.mp ha
    have hx' : x ∈ g :: xs := by
      rcases List.mem_cons.mp hx with rfl | hx
      · have z1 := h1 g List.mem_cons_self
        have z2 := hy g (List.mem_cons_of_mem _ List.mem_cons_self)
        omega
      · exact hx
    rw [List.getLast?_cons_cons]
    exact nat_last h2 hx' fun y hm => hy y (List.mem_cons_of_mem _ hm)
/-- the middle of two moments -/
def mid (x y : F) : F := ltimes (lplus x y) (1, 2)
theorem nrm_half : Nrm ((1, 2) : F) := ⟨by decide, by decide⟩
theorem vl_half : vl (1, 2) = 1 / 2 := by unfold vl; grind
theorem mid_nrm {x y : F} (hx : Nrm x) (hy : Nrm y) : Nrm (mid x y) := by
  unfold mid
  rw [lplus_eq hx hy, ltimes_eq (plus_nrm hx hy) nrm_half]
  exact times_nrm (plus_nrm hx hy) nrm_half
theorem vl_mid {x y : F} (hx : Nrm x) (hy : Nrm y) : vl (mid x y) = (vl x + vl y) / 2 := by
  unfold mid
  rw [lplus_eq hx hy, ltimes_eq (plus_nrm hx hy) nrm_half, vl_times (plus_nrm hx hy) nrm_half, vl_plus hx hy, vl_half]
  grind
/-- the gaps between moments in which p holds -/
def inK (ms : List F) (p : F → Bool) : List Nat := (List.range (ms.length - 1)).filter fun k => p (mid (ms.getD k (0, 1)) (ms.getD (k + 1) (0, 1)))
def dueK (ms : List F) (p : F → Bool) : Option (F × F) := match (inK ms p)[0]?, (inK ms p).getLast? with
  | some i, some j => some (ms.getD i (0, 1), ms.getD (j + 1) (0, 1))
  | _, _ => none
def spanS (sp : List (F × F)) : Option (F × F) := if less (fstM sp) (lstM sp) then some (fstM sp, lstM sp) else none
theorem getD_mem {ms : List F} {k : Nat} (h : k < ms.length) : ms.getD k (0, 1) ∈ ms := by
  rw [List.getD_eq_getElem?_getD, List.getElem?_eq_getElem h]
  exact List.getElem_mem h
theorem getD_asc {ms : List F} (ha : Asc ms) {i j : Nat} (h : i < j) (hj : j < ms.length) : vl (ms.getD i (0, 1)) < vl (ms.getD j (0, 1)) := by
  rw [List.getD_eq_getElem?_getD, List.getD_eq_getElem?_getD, List.getElem?_eq_getElem hj, List.getElem?_eq_getElem (by omega)]
  exact List.pairwise_iff_getElem.mp ha i j (by omega) hj h
theorem getD_le {ms : List F} (ha : Asc ms) {i j : Nat} (h : i ≤ j) (hj : j < ms.length) : vl (ms.getD i (0, 1)) ≤ vl (ms.getD j (0, 1)) := by
  by_cases c : i = j
  · rw [c]; grind
  · have := getD_asc ha (show i < j by omega) hj
    grind
theorem gaps_due {sp : List (F × F)} {ms : List F} {p : F → Bool} (hsp : ∀ s ∈ sp, Nrm s.1 ∧ Nrm s.2) (hms : ∀ m ∈ ms, Nrm m ∧ 0 ≤ vl m ∧ vl m ≤ 1) (h0 : (0, 1) ∈ ms) (h1 : (1, 1) ∈ ms)
    (hp : ∀ t : F, Nrm t → (p t = true ↔ ∀ s ∈ sp, vl s.1 < vl t ∧ vl t < vl s.2)) (hm1 : ∀ s ∈ sp, 0 ≤ vl s.1 → vl s.1 ≤ 1 → s.1 ∈ ms) (hm2 : ∀ s ∈ sp, 0 ≤ vl s.2 → vl s.2 ≤ 1 → s.2 ∈ ms) :
    spanS sp = dueK (sortF ms) p ∧ (∀ r, spanS sp = some r → p (mid r.1 r.2) = true ∧ Nrm r.1 ∧ Nrm r.2) := by
  obtain ⟨f1, f2, f3⟩ := fst_ok sp (0, 1) (by decide) fun s hs => (hsp s hs).1.1
  obtain ⟨l1, l2, l3⟩ := lst_ok sp (1, 1) (by decide) fun s hs => (hsp s hs).2.1
  change fstM sp = (0, 1) ∨ ∃ s ∈ sp, fstM sp = s.1 at f1
  change vl (0, 1) ≤ vl (fstM sp) at f2
  change ∀ s ∈ sp, vl s.1 ≤ vl (fstM sp) at f3
  change lstM sp = (1, 1) ∨ ∃ s ∈ sp, lstM sp = s.2 at l1
  change vl (lstM sp) ≤ vl (1, 1) at l2
  change ∀ s ∈ sp, vl (lstM sp) ≤ vl s.2 at l3
  have nf : Nrm (fstM sp) := by
    rcases f1 with e | ⟨s, hs, e⟩
    · rw [e]; exact nrm_zero
    · rw [e]; exact (hsp s hs).1
  have nl : Nrm (lstM sp) := by
    rcases l1 with e | ⟨s, hs, e⟩
    · rw [e]; exact nrm_unit
    · rw [e]; exact (hsp s hs).2
  unfold spanS
  generalize fstM sp = f at *
  generalize lstM sp = l at *
  rw [vl_zero] at f2
  rw [vl_one] at l2
  obtain ⟨sa, sm⟩ := sort_ok (xs := ms) fun y hy => (hms y hy).1
  have fm : vl f ≤ 1 → f ∈ sortF ms := fun z => (sm f).mpr (by
    rcases f1 with e | ⟨s, hs, e⟩
    · rw [e]; exact h0
    · rw [e]; rw [e] at f2 z; exact hm1 s hs f2 z)
  have lm : 0 ≤ vl l → l ∈ sortF ms := fun z => (sm l).mpr (by
    rcases l1 with e | ⟨s, hs, e⟩
    · rw [e]; exact h1
    · rw [e]; rw [e] at l2 z; exact hm2 s hs z l2)
  have hss : ∀ m ∈ sortF ms, Nrm m ∧ 0 ≤ vl m ∧ vl m ≤ 1 := fun m hm => hms m ((sm m).mp hm)
  generalize sortF ms = ss at *
  -- what p says of a middle
  have fin : ∀ x y : F, Nrm x → Nrm y → vl x < vl y → vl f ≤ vl x → vl y ≤ vl l → p (mid x y) = true := fun x y hx hy h a b => by
    rw [hp _ (mid_nrm hx hy), vl_mid hx hy]
    intro s hs
    have := f3 s hs
    have := l3 s hs
    constructor <;> grind
  have fout : ∀ x y : F, Nrm x → Nrm y → 0 ≤ vl x → vl y ≤ 1 → vl x < vl y → p (mid x y) = true → vl f < (vl x + vl y) / 2 ∧ (vl x + vl y) / 2 < vl l := fun x y hx hy a b h z => by
    rw [hp _ (mid_nrm hx hy), vl_mid hx hy] at z
    constructor
    · rcases f1 with e | ⟨s, hs, e⟩
      · rw [e, vl_zero]; grind
      · rw [e]; exact (z s hs).1
    · rcases l1 with e | ⟨s, hs, e⟩
      · rw [e, vl_one]; grind
      · rw [e]; exact (z s hs).2
  have hk : ∀ k, k + 1 < ss.length → Nrm (ss.getD k (0, 1)) ∧ Nrm (ss.getD (k + 1) (0, 1)) ∧ 0 ≤ vl (ss.getD k (0, 1)) ∧ vl (ss.getD (k + 1) (0, 1)) ≤ 1 ∧ vl (ss.getD k (0, 1)) < vl (ss.getD (k + 1) (0, 1)) := fun k h => by
    have a := hss _ (getD_mem (show k < ss.length by omega))
    have b := hss _ (getD_mem h)
    exact ⟨a.1, b.1, a.2.1, b.2.2, getD_asc sa (by omega) h⟩
  have kin : ∀ k, k ∈ inK ss p ↔ k + 1 < ss.length ∧ p (mid (ss.getD k (0, 1)) (ss.getD (k + 1) (0, 1))) = true := fun k => by
    unfold inK
    rw [List.mem_filter, List.mem_range]
    constructor <;> rintro ⟨a, b⟩ <;> exact ⟨by omega, b⟩
  have kp : (inK ss p).Pairwise (· < ·) := List.Pairwise.sublist List.filter_sublist List.pairwise_lt_range
  rw [less_vl nf.1 nl.1]
  by_cases c : vl f < vl l
  · rw [decide_eq_true c, if_pos rfl]
    refine ⟨?_, fun r hr => by
      obtain rfl := Option.some.inj hr
      exact ⟨fin f l nf nl c (by grind) (by grind), nf, nl⟩⟩
    have fm := fm (by grind)
    have lm := lm (by grind)
    obtain ⟨i, hi, ei⟩ := List.getElem_of_mem fm
    obtain ⟨j, hj, ej⟩ := List.getElem_of_mem lm
    have ei' : ss.getD i (0, 1) = f := by rw [List.getD_eq_getElem?_getD, List.getElem?_eq_getElem hi]; exact ei
    have ej' : ss.getD j (0, 1) = l := by rw [List.getD_eq_getElem?_getD, List.getElem?_eq_getElem hj]; exact ej
    have hij : i < j := by
      by_cases z : i < j
      · exact z
      · have := getD_le sa (show j ≤ i by omega) hi
        rw [ei', ej'] at this
        grind
    have kk : ∀ k, k ∈ inK ss p ↔ i ≤ k ∧ k + 1 ≤ j := fun k => by
      rw [kin]
      constructor
      · rintro ⟨a, b⟩
        obtain ⟨n1, n2, g1, g2, g3⟩ := hk k a
        obtain ⟨q1, q2⟩ := fout _ _ n1 n2 g1 g2 g3 b
        constructor
        · by_cases z : i ≤ k
          · exact z
          · have := getD_le sa (show k + 1 ≤ i by omega) hi
            rw [ei'] at this
            grind
        · by_cases z : k + 1 ≤ j
          · exact z
          · have := getD_le sa (show j ≤ k by omega) (by omega)
            rw [ej'] at this
            grind
      · rintro ⟨a, b⟩
        have hk1 : k + 1 < ss.length := by omega
        obtain ⟨n1, n2, g1, g2, g3⟩ := hk k hk1
        refine ⟨hk1, fin _ _ n1 n2 g3 ?_ ?_⟩
        · rw [← ei']; exact getD_le sa a (by omega)
        · rw [← ej']; exact getD_le sa b hj
    have e1 : (inK ss p)[0]? = some i := nat_head kp ((kk i).mpr ⟨by omega, by omega⟩) fun y hy => ((kk y).mp hy).1
    have e2 : (inK ss p).getLast? = some (j - 1) := nat_last kp ((kk (j - 1)).mpr ⟨by omega, by omega⟩) fun y hy => by have := ((kk y).mp hy).2; omega
    unfold dueK
    rw [e1, e2]
    show _ = some (ss.getD i (0, 1), ss.getD (j - 1 + 1) (0, 1))
    rw [show j - 1 + 1 = j by omega, ei', ej']
  · rw [decide_eq_false c, if_neg (by decide)]
    refine ⟨?_, fun r hr => by cases hr⟩
    have e : inK ss p = [] := by
      rw [List.eq_nil_iff_forall_not_mem]
      intro k hkm
      obtain ⟨a, b⟩ := (kin k).mp hkm
      obtain ⟨n1, n2, g1, g2, g3⟩ := hk k a
      obtain ⟨q1, q2⟩ := fout _ _ n1 n2 g1 g2 g3 b
      grind
    unfold dueK
    rw [e]
    rfl
/-! ### two boxes on an axis: low end, size and way of each -/
structure Sx where
  la : F
  sa : F
  va : F
  lb : F
  sb : F
  vb : F
structure Sx.Ok (a : Sx) : Prop where
  la : Nrm a.la
  sa : Nrm a.sa
  va : Nrm a.va
  lb : Nrm a.lb
  sb : Nrm a.sb
  vb : Nrm a.vb
def Sx.w (a : Sx) : F := minusM a.vb a.va
def Sx.lo (a : Sx) : F := minusM a.la (plusM a.lb a.sb)
def Sx.hi (a : Sx) : F := minusM (plusM a.la a.sa) a.lb
def Sx.out (a : Sx) : Bool := a.w.1 == 0 && (decide (0 ≤ a.lo.1) || decide (a.hi.1 ≤ 0))
def Sx.span (a : Sx) : F × F := if 0 < a.w.1 then (overM a.lo a.w, overM a.hi a.w) else (overM a.hi a.w, overM a.lo a.w)
def Sx.spans (a : Sx) : List (F × F) := if a.w.1 = 0 then [] else [a.span]
def lmx (x y : F) : F := if less x y then y else x
def gapM (pa sa pb sb : F) : F := lmx (lminus pb (lplus pa sa)) (lminus pa (lplus pb sb))
def Sx.inside (a : Sx) (t : F) : Bool := decide ((gapM (lplus a.la (ltimes a.va t)) a.sa (lplus a.lb (ltimes a.vb t)) a.sb).1 < 0)
def tmG (g w : F) : F := lf (g.1 * w.2) (g.2 * w.1)
def Sx.moms (a : Sx) : List F := if a.w.1 = 0 then [] else keepT (tmG a.hi a.w) ++ keepT (tmG a.lo a.w)
theorem tmG_eq {g w : F} (hg : Nrm g) (hw : Nrm w) (h : w.1 ≠ 0) : tmG g w = overM g w := by
  unfold tmG
  refine vl_inj (lf_nrm (Int.mul_ne_zero (by have := hg.1; omega) h)) (over_nrm hg hw h) ?_
  rw [vl_lf (Int.mul_ne_zero (by have := hg.1; omega) h), vl_over hg hw h, Rat.intCast_mul, Rat.intCast_mul]
  unfold vl
  have p := cpos hg.1
  have q := cpos hw.1
  have p' : (g.2 : Rat) ≠ 0 := by grind
  have q' : (w.2 : Rat) ≠ 0 := by grind
  have r' : (w.1 : Rat) ≠ 0 := fun z => h (Rat.intCast_inj.mp z)
  grind
section
variable {a : Sx} (ha : a.Ok)
include ha
theorem Sx.Ok.nw : Nrm a.w := minus_nrm ha.vb ha.va
theorem Sx.Ok.nlo : Nrm a.lo := minus_nrm ha.la (plus_nrm ha.lb ha.sb)
theorem Sx.Ok.nhi : Nrm a.hi := minus_nrm (plus_nrm ha.la ha.sa) ha.lb
theorem Sx.Ok.vw : vl a.w = vl a.vb - vl a.va := vl_minus ha.vb ha.va
theorem Sx.Ok.vlo : vl a.lo = vl a.la - (vl a.lb + vl a.sb) := by
  unfold Sx.lo
  rw [vl_minus ha.la (plus_nrm ha.lb ha.sb), vl_plus ha.lb ha.sb]
theorem Sx.Ok.vhi : vl a.hi = vl a.la + vl a.sa - vl a.lb := by
  unfold Sx.hi
  rw [vl_minus (plus_nrm ha.la ha.sa) ha.lb, vl_plus ha.la ha.sa]
omit ha in
theorem gap_iff {pa sa pb sb : F} (h1 : Nrm pa) (h2 : Nrm sa) (h3 : Nrm pb) (h4 : Nrm sb) : (gapM pa sa pb sb).1 < 0 ↔ vl pb < vl pa + vl sa ∧ vl pa < vl pb + vl sb := by
  have n1 := plus_nrm h1 h2
  have n2 := plus_nrm h3 h4
  have n3 := minus_nrm h3 n1
  have n4 := minus_nrm h1 n2
  unfold gapM lmx
  rw [lplus_eq h1 h2, lplus_eq h3 h4, lminus_eq h3 n1, lminus_eq h1 n2, less_vl n3.1 n4.1]
  have e1 : vl (minusM pb (plusM pa sa)) = vl pb - (vl pa + vl sa) := by rw [vl_minus h3 n1, vl_plus h1 h2]
  have e2 : vl (minusM pa (plusM pb sb)) = vl pa - (vl pb + vl sb) := by rw [vl_minus h1 n2, vl_plus h3 h4]
  by_cases c : vl (minusM pb (plusM pa sa)) < vl (minusM pa (plusM pb sb))
  · rw [decide_eq_true c, if_pos rfl, ← vl_neg n4.1]
    constructor
    · intro z; constructor <;> grind
    · rintro ⟨z1, z2⟩; grind
  · rw [decide_eq_false c, if_neg (by decide), ← vl_neg n3.1]
    constructor
    · intro z; constructor <;> grind
    · rintro ⟨z1, z2⟩; grind
theorem Sx.inside_iff {t : F} (ht : Nrm t) : a.inside t = true ↔ vl a.lo < vl a.w * vl t ∧ vl a.w * vl t < vl a.hi := by
  have m1 := times_nrm ha.va ht
  have m2 := times_nrm ha.vb ht
  unfold Sx.inside
  rw [ltimes_eq ha.va ht, ltimes_eq ha.vb ht, lplus_eq ha.la m1, lplus_eq ha.lb m2, decide_eq_true_iff, gap_iff (plus_nrm ha.la m1) ha.sa (plus_nrm ha.lb m2) ha.sb, vl_plus ha.la m1, vl_plus ha.lb m2, vl_times ha.va ht, vl_times ha.vb ht, ha.vw, ha.vlo, ha.vhi]
  constructor <;> rintro ⟨z1, z2⟩ <;> constructor <;> grind
end
theorem zero_iff {x : F} (hx : 0 < x.2) : x.1 = 0 ↔ vl x = 0 := by
  have h1 := vl_pos hx
  have h2 := vl_neg hx
  constructor
  · intro z
    have a : ¬ 0 < vl x := fun q => by have := h1.mp q; omega
    have b : ¬ vl x < 0 := fun q => by have := h2.mp q; omega
    grind
  · intro z
    have a : ¬ 0 < x.1 := fun q => by have := h1.mpr q; grind
    have b : ¬ x.1 < 0 := fun q => by have := h2.mpr q; grind
    omega
theorem nneg_iff {x : F} (hx : 0 < x.2) : 0 ≤ x.1 ↔ 0 ≤ vl x := by
  have h2 := vl_neg hx
  constructor
  · intro z
    have b : ¬ vl x < 0 := fun q => by have := h2.mp q; omega
    grind
  · intro z
    have b : ¬ x.1 < 0 := fun q => by have := h2.mpr q; grind
    omega
theorem npos_iff {x : F} (hx : 0 < x.2) : x.1 ≤ 0 ↔ vl x ≤ 0 := by
  have h2 := vl_pos hx
  constructor
  · intro z
    have b : ¬ 0 < vl x := fun q => by have := h2.mp q; omega
    grind
  · intro z
    have b : ¬ 0 < x.1 := fun q => by have := h2.mpr q; grind
    omega
theorem div_lt_pos {x t w : Rat} (hw : 0 < w) : x / w < t ↔ x < w * t := by
  have h := le_div_pos (x := x) (t := t) hw
  constructor
  · intro z
    have : ¬ w * t ≤ x := fun q => by have := h.mpr q; grind
    grind
  · intro z
    have : ¬ t ≤ x / w := fun q => by have := h.mp q; grind
    grind
theorem lt_div_pos {x t w : Rat} (hw : 0 < w) : t < x / w ↔ w * t < x := by
  have h := div_le_pos (x := x) (t := t) hw
  constructor
  · intro z
    have : ¬ x ≤ w * t := fun q => by have := h.mpr q; grind
    grind
  · intro z
    have : ¬ x / w ≤ t := fun q => by have := h.mp q; grind
    grind
theorem span_lt {a : Sx} (ha : a.Ok) (hw : a.w.1 ≠ 0) {t : F} (ht : Nrm t) : a.inside t = true ↔ vl a.span.1 < vl t ∧ vl t < vl a.span.2 := by
  rw [Sx.inside_iff ha ht]
  have nw := ha.nw
  have nl := ha.nlo
  have nh := ha.nhi
  have wne : vl a.w ≠ 0 := fun z => hw ((zero_iff nw.1).mpr z)
  unfold Sx.span
  by_cases c : 0 < a.w.1
  · rw [if_pos c]
    have wp := (vl_pos nw.1).mpr c
    show _ ↔ vl (overM a.lo a.w) < vl t ∧ vl t < vl (overM a.hi a.w)
    rw [vl_over nl nw hw, vl_over nh nw hw, div_lt_pos wp, lt_div_pos wp]
  · rw [if_neg c]
    have wn := (vl_neg nw.1).mpr (show a.w.1 < 0 by omega)
    show _ ↔ vl (overM a.hi a.w) < vl t ∧ vl t < vl (overM a.lo a.w)
    have wp : 0 < -vl a.w := by grind
    rw [vl_over nl nw hw, vl_over nh nw hw, div_neg_neg wne, div_neg_neg (x := vl a.lo) wne, div_lt_pos wp, lt_div_pos wp]
    constructor <;> rintro ⟨h1, h2⟩ <;> exact ⟨by grind, by grind⟩
theorem still_iff {a : Sx} (ha : a.Ok) (hw : a.w.1 = 0) {t : F} (ht : Nrm t) : a.inside t = true ↔ a.out = false := by
  rw [Sx.inside_iff ha ht, (zero_iff ha.nw.1).mp hw]
  have h1 := nneg_iff ha.nlo.1
  have h2 := npos_iff ha.nhi.1
  unfold Sx.out
  rw [hw]
  show _ ↔ (true && (decide (0 ≤ a.lo.1) || decide (a.hi.1 ≤ 0))) = false
  rw [Bool.true_and, Bool.or_eq_false_iff, decide_eq_false_iff_not, decide_eq_false_iff_not, h1, h2]
  constructor <;> rintro ⟨z1, z2⟩ <;> constructor <;> grind
def sweepM (a b : Sx) : Option (F × F) := if a.out || b.out then none else spanS (a.spans ++ b.spans)
theorem sx_ok {a : Sx} (ha : a.Ok) : (∀ s ∈ a.spans, Nrm s.1 ∧ Nrm s.2) ∧ (∀ m ∈ a.moms, Nrm m ∧ 0 ≤ vl m ∧ vl m ≤ 1) ∧ (a.out = false → ∀ t : F, Nrm t → (a.inside t = true ↔ ∀ s ∈ a.spans, vl s.1 < vl t ∧ vl t < vl s.2)) ∧
    (∀ s ∈ a.spans, 0 ≤ vl s.1 → vl s.1 ≤ 1 → s.1 ∈ a.moms) ∧ (∀ s ∈ a.spans, 0 ≤ vl s.2 → vl s.2 ≤ 1 → s.2 ∈ a.moms) := by
  by_cases c : a.w.1 = 0
  · have e1 : a.spans = [] := if_pos c
    have e2 : a.moms = [] := if_pos c
    rw [e1, e2]
    refine ⟨fun s h => by simp at h, fun s h => by simp at h, fun ho t ht => ?_, fun s h => by simp at h, fun s h => by simp at h⟩
    rw [still_iff ha c ht]
    constructor
    · intro _ s h; simp at h
    · intro _; exact ho
  · have e1 : a.spans = [a.span] := if_neg c
    have e2 : a.moms = keepT (overM a.hi a.w) ++ keepT (overM a.lo a.w) := by
      unfold Sx.moms
      rw [if_neg c, tmG_eq ha.nhi ha.nw c, tmG_eq ha.nlo ha.nw c]
    rw [e1, e2]
    have n1 := over_nrm ha.nhi ha.nw c
    have n2 := over_nrm ha.nlo ha.nw c
    have ee : (a.span.1 = overM a.lo a.w ∧ a.span.2 = overM a.hi a.w) ∨ (a.span.1 = overM a.hi a.w ∧ a.span.2 = overM a.lo a.w) := by
      unfold Sx.span
      split
      · exact .inl ⟨rfl, rfl⟩
      · exact .inr ⟨rfl, rfl⟩
    refine ⟨fun s h => ?_, fun m hm => ?_, fun ho t ht => ?_, fun s h h1 h2 => ?_, fun s h h1 h2 => ?_⟩
    · rw [List.mem_singleton.mp h]
      rcases ee with ⟨z1, z2⟩ | ⟨z1, z2⟩ <;> rw [z1, z2] <;> exact ⟨by assumption, by assumption⟩
    · rcases List.mem_append.mp hm with hm | hm
      · obtain ⟨rfl, h1, h2⟩ := (keep_mem n1.1).mp hm
        exact ⟨n1, h1, h2⟩
      · obtain ⟨rfl, h1, h2⟩ := (keep_mem n2.1).mp hm
        exact ⟨n2, h1, h2⟩
    · rw [span_lt ha c ht]
      constructor
      · intro z s hs
        rw [List.mem_singleton.mp hs]
        exact z
      · intro z
        exact z _ (List.mem_singleton.mpr rfl)
    · rw [List.mem_singleton.mp h] at h1 h2 ⊢
      rcases ee with ⟨z1, z2⟩ | ⟨z1, z2⟩
      · rw [z1] at h1 h2 ⊢
        exact List.mem_append_right _ ((keep_mem n2.1).mpr ⟨rfl, h1, h2⟩)
      · rw [z1] at h1 h2 ⊢
        exact List.mem_append_left _ ((keep_mem n1.1).mpr ⟨rfl, h1, h2⟩)
    · rw [List.mem_singleton.mp h] at h1 h2 ⊢
      rcases ee with ⟨z1, z2⟩ | ⟨z1, z2⟩
      · rw [z2] at h1 h2 ⊢
        exact List.mem_append_left _ ((keep_mem n1.1).mpr ⟨rfl, h1, h2⟩)
      · rw [z2] at h1 h2 ⊢
        exact List.mem_append_right _ ((keep_mem n2.1).mpr ⟨rfl, h1, h2⟩)
theorem out_never {a : Sx} (ha : a.Ok) (ho : a.out = true) {t : F} (ht : Nrm t) : a.inside t = false := by
  have hw : a.w.1 = 0 := by
    unfold Sx.out at ho
    rw [Bool.and_eq_true] at ho
    simpa using ho.1
  rw [Bool.eq_false_iff]
  intro z
  rw [(still_iff ha hw ht).mp z] at ho
  cases ho
theorem sweep_due {a b : Sx} (ha : a.Ok) (hb : b.Ok) : sweepM a b = dueK (sortF ([(0, 1), (1, 1)] ++ a.moms ++ b.moms)) (fun t => a.inside t && b.inside t) ∧
    (∀ r, sweepM a b = some r → (a.inside (mid r.1 r.2) && b.inside (mid r.1 r.2)) = true ∧ Nrm r.1 ∧ Nrm r.2) := by
  obtain ⟨a1, a2, a3, a4, a5⟩ := sx_ok ha
  obtain ⟨b1, b2, b3, b4, b5⟩ := sx_ok hb
  have hms : ∀ m ∈ [(0, 1), (1, 1)] ++ a.moms ++ b.moms, Nrm m ∧ 0 ≤ vl m ∧ vl m ≤ 1 := fun m hm => by
    rcases List.mem_append.mp hm with hm | hm
    · rcases List.mem_append.mp hm with hm | hm
      · rcases List.mem_cons.mp hm with rfl | hm
        · exact ⟨nrm_zero, by rw [vl_zero]; grind, by rw [vl_zero]; grind⟩
        · obtain rfl := List.mem_singleton.mp hm
          exact ⟨nrm_unit, by rw [vl_one]; grind, by rw [vl_one]; grind⟩
      · exact a2 m hm
    · exact b2 m hm
  unfold sweepM
  by_cases c : (a.out || b.out) = true
  · rw [if_pos c]
    refine ⟨?_, fun r h => by cases h⟩
    obtain ⟨sa, sm⟩ := sort_ok (xs := [(0, 1), (1, 1)] ++ a.moms ++ b.moms) fun y hy => (hms y hy).1
    have hn : ∀ m ∈ sortF ([(0, 1), (1, 1)] ++ a.moms ++ b.moms), Nrm m := fun m hm => (hms m ((sm m).mp hm)).1
    generalize sortF ([(0, 1), (1, 1)] ++ a.moms ++ b.moms) = ss at *
    have e : inK ss (fun t => a.inside t && b.inside t) = [] := by
      rw [List.eq_nil_iff_forall_not_mem]
      intro k hk
      unfold inK at hk
      rw [List.mem_filter, List.mem_range] at hk
      obtain ⟨h1, h2⟩ := hk
      have nm := mid_nrm (hn _ (getD_mem (show k < ss.length by omega))) (hn _ (getD_mem (show k + 1 < ss.length by omega)))
      rw [Bool.and_eq_true] at h2
      rcases Bool.or_eq_true _ _ |>.mp c with o | o
      · rw [out_never ha o nm] at h2
        cases h2.1
      · rw [out_never hb o nm] at h2
        cases h2.2
    unfold dueK
    rw [e]
    rfl
  · have c := Bool.eq_false_iff.mpr c
    rw [c, if_neg (by decide)]
    obtain ⟨oa, ob⟩ := Bool.or_eq_false_iff.mp c
    refine gaps_due (fun s hs => ?_) hms (List.mem_append_left _ (List.mem_append_left _ List.mem_cons_self)) (List.mem_append_left _ (List.mem_append_left _ (List.mem_cons_of_mem _ List.mem_cons_self))) (fun t ht => ?_) (fun s hs h1 h2 => ?_) (fun s hs h1 h2 => ?_)
    · rcases List.mem_append.mp hs with hs | hs
      · exact a1 s hs
      · exact b1 s hs
    · rw [Bool.and_eq_true, a3 oa t ht, b3 ob t ht]
      constructor
      · rintro ⟨z1, z2⟩ s hs
        rcases List.mem_append.mp hs with hs | hs
        · exact z1 s hs
        · exact z2 s hs
      · intro z
        exact ⟨fun s hs => z s (List.mem_append_left _ hs), fun s hs => z s (List.mem_append_right _ hs)⟩
    · rcases List.mem_append.mp hs with hs | hs
      · exact List.mem_append_left _ (List.mem_append_right _ (a4 s hs h1 h2))
      · exact List.mem_append_right _ (b4 s hs h1 h2)
    · rcases List.mem_append.mp hs with hs | hs
      · exact List.mem_append_left _ (List.mem_append_right _ (a5 s hs h1 h2))
      · exact List.mem_append_right _ (b5 s hs h1 h2)
/-- the two boxes exchanged -/
def Sx.swap (a : Sx) : Sx := ⟨a.lb, a.sb, a.vb, a.la, a.sa, a.va⟩
theorem Sx.Ok.swap {a : Sx} (ha : a.Ok) : a.swap.Ok := ⟨ha.lb, ha.sb, ha.vb, ha.la, ha.sa, ha.va⟩
theorem swap_same {a : Sx} (ha : a.Ok) : a.swap.out = a.out ∧ a.swap.spans = a.spans := by
  have hs := ha.swap
  have ew : vl a.swap.w = -vl a.w := by
    rw [ha.vw, hs.vw]
    show vl a.va - vl a.vb = _
    grind
  have el : vl a.swap.lo = -vl a.hi := by
    rw [ha.vhi, hs.vlo]
    show vl a.lb - (vl a.la + vl a.sa) = _
    grind
  have eh : vl a.swap.hi = -vl a.lo := by
    rw [ha.vlo, hs.vhi]
    show vl a.lb + vl a.sb - vl a.la = _
    grind
  have z1 := zero_iff ha.nw.1
  have z2 := zero_iff hs.nw.1
  have zz : a.swap.w.1 = 0 ↔ a.w.1 = 0 := by
    rw [z1, z2, ew]
    constructor <;> intro z <;> grind
  constructor
  · unfold Sx.out
    have k1 : decide (0 ≤ a.swap.lo.1) = decide (a.hi.1 ≤ 0) := by
      rw [decide_eq_decide, nneg_iff hs.nlo.1, npos_iff ha.nhi.1, el]
      constructor <;> intro z <;> grind
    have k2 : decide (a.swap.hi.1 ≤ 0) = decide (0 ≤ a.lo.1) := by
      rw [decide_eq_decide, npos_iff hs.nhi.1, nneg_iff ha.nlo.1, eh]
      constructor <;> intro z <;> grind
    have k3 : (a.swap.w.1 == 0) = (a.w.1 == 0) := by
      rw [Bool.eq_iff_iff, beq_iff_eq, beq_iff_eq]
      exact zz
    rw [k1, k2, k3, Bool.or_comm]
  · unfold Sx.spans
    by_cases c : a.w.1 = 0
    · rw [if_pos c, if_pos (zz.mpr c)]
    · have c' : ¬ a.swap.w.1 = 0 := fun z => c (zz.mp z)
      rw [if_neg c, if_neg c']
      have p1 := vl_pos ha.nw.1
      have p2 := vl_pos hs.nw.1
      have wne : vl a.w ≠ 0 := fun z => c (z1.mpr z)
      have e1 : overM a.swap.hi a.swap.w = overM a.lo a.w := vl_inj (over_nrm hs.nhi hs.nw c') (over_nrm ha.nlo ha.nw c) (by
        rw [vl_over hs.nhi hs.nw c', vl_over ha.nlo ha.nw c, eh, ew, ← div_neg_neg wne])
      have e2 : overM a.swap.lo a.swap.w = overM a.hi a.w := vl_inj (over_nrm hs.nlo hs.nw c') (over_nrm ha.nhi ha.nw c) (by
        rw [vl_over hs.nlo hs.nw c', vl_over ha.nhi ha.nw c, el, ew, ← div_neg_neg wne])
      unfold Sx.span
      by_cases d : 0 < a.w.1
      · have d' : ¬ 0 < a.swap.w.1 := fun z => by
          have := p2.mpr z
          have := p1.mpr d
          grind
        rw [if_pos d, if_neg d', e1, e2]
      · have d' : 0 < a.swap.w.1 := p2.mp (by
          have : ¬ 0 < vl a.w := fun z => d (p1.mp z)
          rw [ew]
          grind)
        rw [if_neg d, if_pos d', e1, e2]
theorem sweep_swap {a b : Sx} (ha : a.Ok) (hb : b.Ok) : sweepM a.swap b.swap = sweepM a b := by
  unfold sweepM
  rw [(swap_same ha).1, (swap_same hb).1, (swap_same ha).2, (swap_same hb).2]
end FR

local macro_rules | `(tactic| walk_at "norm") => `(tactic| try simp only [PL.cxK, List.map_cons, List.map_nil, List.cons_append, List.nil_append, List.length_cons, List.length_nil, List.replicate_succ, List.replicate_zero, Nat.reduceAdd, Nat.reduceSub, Nat.zero_add, Nat.sub_self])
local macro_rules | `(tactic| walk_at "ev") => `(tactic| repeat' (first | exact PL.e_var rfl | exact PL.e_int | exact PL.e_bl | exact PL.e_str | exact PL.e_non | exact PL.a_nil | refine PL.p_cons ?_ ?_ | refine PL.p_f1 ?_ | refine PL.p_f2 ?_ | refine PL.p_add ?_ ?_ | refine PL.p_sub ?_ ?_ | refine PL.p_mul ?_ ?_ ?_ | refine PL.p_div ?_ ?_ ?_ | refine PL.p_mod ?_ ?_ ?_ | refine PL.p_pow ?_ ?_ ?_ | refine PL.p_lt ?_ ?_ | refine PL.p_le ?_ ?_ | refine PL.p_gt ?_ ?_ | refine PL.p_ge ?_ ?_ | refine PL.p_eqI ?_ ?_ | refine PL.p_neI ?_ ?_ | refine PL.p_neg ?_ | refine PL.p_gcd ?_ | refine PL.p_int1 ?_ | refine PL.p_abs ?_ | refine PL.p_len ?_ | refine PL.p_test ?_ | refine PL.d_ix0 ?_ | refine PL.d_ix1 ?_ | refine PL.d_ix2 ?_ | refine PL.d_ix3 ?_ | refine PL.p_list ?_ | refine' PL.p_i0 _ | refine' PL.p_i1 _ | refine' PL.p_i2 _))
namespace W
open PySem PySem.Spec PyProof.Rows L2 FR PL
def topS (i : Nat) : Stmt := PySem.Challenge.pw_steadybodies_k05_times_of_overlap.main.body.getD i (.Pass ⟨0, 0, 0, 0⟩)
abbrev s_plus : Stmt := topS 8
theorem sc_plus : FnScope ["a", "b", "shared", "stretched", "numerator", "divisor"] ["a", "b"] (defScope s_plus) := ⟨rfl, rfl, rfl, by decide +kernel, rfl, by decide +kernel, by decide +kernel⟩
abbrev s_minus : Stmt := topS 9
theorem sc_minus : FnScope ["a", "b"] ["a", "b"] (defScope s_minus) := ⟨rfl, rfl, rfl, by decide +kernel, rfl, by decide +kernel, by decide +kernel⟩
abbrev s_times : Stmt := topS 10
theorem sc_times : FnScope ["a", "b", "first", "second"] ["a", "b"] (defScope s_times) := ⟨rfl, rfl, rfl, by decide +kernel, rfl, by decide +kernel, by decide +kernel⟩
abbrev s_over : Stmt := topS 11
theorem sc_over : FnScope ["a", "b"] ["a", "b"] (defScope s_over) := ⟨rfl, rfl, rfl, by decide +kernel, rfl, by decide +kernel, by decide +kernel⟩
abbrev s_compare : Stmt := topS 12
theorem sc_compare : FnScope ["a", "b", "left", "right"] ["a", "b"] (defScope s_compare) := ⟨rfl, rfl, rfl, by decide +kernel, rfl, by decide +kernel, by decide +kernel⟩
abbrev s_least : Stmt := topS 13
theorem sc_least : FnScope ["items", "best", "item"] ["items"] (defScope s_least) := ⟨rfl, rfl, rfl, by decide +kernel, rfl, by decide +kernel, by decide +kernel⟩
abbrev s_greatest : Stmt := topS 14
theorem sc_greatest : FnScope ["items", "best", "item"] ["items"] (defScope s_greatest) := ⟨rfl, rfl, rfl, by decide +kernel, rfl, by decide +kernel, by decide +kernel⟩
abbrev s_subtract : Stmt := topS 16
theorem sc_subtract : FnScope ["a", "b"] ["a", "b"] (defScope s_subtract) := ⟨rfl, rfl, rfl, by decide +kernel, rfl, by decide +kernel, by decide +kernel⟩
abbrev s_is_sized : Stmt := topS 18
theorem sc_is_sized : FnScope ["size"] ["size"] (defScope s_is_sized) := ⟨rfl, rfl, rfl, by decide +kernel, rfl, by decide +kernel, by decide +kernel⟩
abbrev s_check_box : Stmt := topS 19
theorem sc_check_box : FnScope ["box"] ["box"] (defScope s_check_box) := ⟨rfl, rfl, rfl, by decide +kernel, rfl, by decide +kernel, by decide +kernel⟩
abbrev s_ends_of : Stmt := topS 20
theorem sc_ends_of : FnScope ["box", "x", "y", "width", "height"] ["box"] (defScope s_ends_of) := ⟨rfl, rfl, rfl, by decide +kernel, rfl, by decide +kernel, by decide +kernel⟩
abbrev s_passing : Stmt := topS 22
theorem sc_passing : FnScope ["low", "high", "way", "at_low", "at_high"] ["low", "high", "way"] (defScope s_passing) := ⟨rfl, rfl, rfl, by decide +kernel, rfl, by decide +kernel, by decide +kernel⟩
abbrev s_common_span : Stmt := topS 23
theorem sc_common_span : FnScope ["spans", "first", "last", "start", "finish"] ["spans"] (defScope s_common_span) := ⟨rfl, rfl, rfl, by decide +kernel, rfl, by decide +kernel, by decide +kernel⟩
abbrev s_overlap_times : Stmt := topS 25
theorem sc_overlap_times : FnScope ["a", "move_a", "b", "move_b", "spans", "low_a", "high_a", "low_b", "high_b", "way", "low", "high", "enter", "leave"] ["a", "move_a", "b", "move_b"] (defScope s_overlap_times) := ⟨rfl, rfl, rfl, by decide +kernel, rfl, by decide +kernel, by decide +kernel⟩
abbrev s_first_contact : Stmt := topS 26
theorem sc_first_contact : FnScope ["a", "move_a", "b", "move_b", "pair"] ["a", "move_a", "b", "move_b"] (defScope s_first_contact) := ⟨rfl, rfl, rfl, by decide +kernel, rfl, by decide +kernel, by decide +kernel⟩
abbrev s_law_begin : Stmt := topS 28
theorem sc_law_begin : FnScope ["script", "seed", "cell"] ["script"] (defScope s_law_begin) := ⟨rfl, rfl, rfl, by decide +kernel, rfl, by decide +kernel, by decide +kernel⟩
abbrev s_law_take : Stmt := topS 29
theorem sc_law_take : FnScope ["d", "many", "small", "digit"] ["d", "many"] (defScope s_law_take) := ⟨rfl, rfl, rfl, by decide +kernel, rfl, by decide +kernel, by decide +kernel⟩
abbrev s_law_signed : Stmt := topS 30
theorem sc_law_signed : FnScope ["d", "most"] ["d", "most"] (defScope s_law_signed) := ⟨rfl, rfl, rfl, by decide +kernel, rfl, by decide +kernel, by decide +kernel⟩
abbrev s_law_gcd : Stmt := topS 31
theorem sc_law_gcd : FnScope ["a", "b"] ["a", "b"] (defScope s_law_gcd) := ⟨rfl, rfl, rfl, by decide +kernel, rfl, by decide +kernel, by decide +kernel⟩
abbrev s_law_f : Stmt := topS 32
theorem sc_law_f : FnScope ["a", "b", "c"] ["a", "b"] (defScope s_law_f) := ⟨rfl, rfl, rfl, by decide +kernel, rfl, by decide +kernel, by decide +kernel⟩
abbrev s_law_plus : Stmt := topS 33
theorem sc_law_plus : FnScope ["a", "b"] ["a", "b"] (defScope s_law_plus) := ⟨rfl, rfl, rfl, by decide +kernel, rfl, by decide +kernel, by decide +kernel⟩
abbrev s_law_minus : Stmt := topS 34
theorem sc_law_minus : FnScope ["a", "b"] ["a", "b"] (defScope s_law_minus) := ⟨rfl, rfl, rfl, by decide +kernel, rfl, by decide +kernel, by decide +kernel⟩
abbrev s_law_times : Stmt := topS 35
theorem sc_law_times : FnScope ["a", "b"] ["a", "b"] (defScope s_law_times) := ⟨rfl, rfl, rfl, by decide +kernel, rfl, by decide +kernel, by decide +kernel⟩
abbrev s_law_less : Stmt := topS 36
theorem sc_law_less : FnScope ["a", "b"] ["a", "b"] (defScope s_law_less) := ⟨rfl, rfl, rfl, by decide +kernel, rfl, by decide +kernel, by decide +kernel⟩
abbrev s_law_max : Stmt := topS 37
theorem sc_law_max : FnScope ["a", "b"] ["a", "b"] (defScope s_law_max) := ⟨rfl, rfl, rfl, by decide +kernel, rfl, by decide +kernel, by decide +kernel⟩
abbrev s_law_part : Stmt := topS 38
theorem sc_law_part : FnScope ["d", "most"] ["d", "most"] (defScope s_law_part) := ⟨rfl, rfl, rfl, by decide +kernel, rfl, by decide +kernel, by decide +kernel⟩
abbrev s_law_vector : Stmt := topS 39
theorem sc_law_vector : FnScope ["d", "most"] ["d", "most"] (defScope s_law_vector) := ⟨rfl, rfl, rfl, by decide +kernel, rfl, by decide +kernel, by decide +kernel⟩
abbrev s_law_high : Stmt := topS 40
theorem sc_law_high : FnScope ["box", "k"] ["box", "k"] (defScope s_law_high) := ⟨rfl, rfl, rfl, by decide +kernel, rfl, by decide +kernel, by decide +kernel⟩
abbrev s_law_gap : Stmt := topS 41
theorem sc_law_gap : FnScope ["a", "b", "k"] ["a", "b", "k"] (defScope s_law_gap) := ⟨rfl, rfl, rfl, by decide +kernel, rfl, by decide +kernel, by decide +kernel⟩
abbrev s_law_over : Stmt := topS 42
theorem sc_law_over : FnScope ["a", "b"] ["a", "b"] (defScope s_law_over) := ⟨rfl, rfl, rfl, by decide +kernel, rfl, by decide +kernel, by decide +kernel⟩
abbrev s_law_size : Stmt := topS 43
theorem sc_law_size : FnScope ["d"] ["d"] (defScope s_law_size) := ⟨rfl, rfl, rfl, by decide +kernel, rfl, by decide +kernel, by decide +kernel⟩
abbrev s_law_beside : Stmt := topS 44
theorem sc_law_beside : FnScope ["d", "box", "size", "k", "place"] ["d", "box", "size"] (defScope s_law_beside) := ⟨rfl, rfl, rfl, by decide +kernel, rfl, by decide +kernel, by decide +kernel⟩
abbrev s_law_box : Stmt := topS 45
theorem sc_law_box : FnScope ["d", "boxes", "size"] ["d", "boxes"] (defScope s_law_box) := ⟨rfl, rfl, rfl, by decide +kernel, rfl, by decide +kernel, by decide +kernel⟩
abbrev s_law_put : Stmt := topS 46
theorem sc_law_put : FnScope ["a", "way", "t"] ["a", "way", "t"] (defScope s_law_put) := ⟨rfl, rfl, rfl, by decide +kernel, rfl, by decide +kernel, by decide +kernel⟩
abbrev s_law_sorted : Stmt := topS 47
theorem sc_law_sorted : FnScope ["items", "out", "item", "at", "one"] ["items"] (defScope s_law_sorted) := ⟨rfl, rfl, rfl, by decide +kernel, rfl, by decide +kernel, by decide +kernel⟩
abbrev s_law_moments : Stmt := topS 48
theorem sc_law_moments : FnScope ["a", "way_a", "b", "way_b", "found", "k", "speed", "gap", "t"] ["a", "way_a", "b", "way_b"] (defScope s_law_moments) := ⟨rfl, rfl, rfl, by decide +kernel, rfl, by decide +kernel, by decide +kernel⟩
abbrev s_law_stretch_of_times : Stmt := topS 49
theorem sc_law_stretch_of_times : FnScope ["a", "way_a", "b", "way_b", "moments", "inside", "k", "middle"] ["a", "way_a", "b", "way_b"] (defScope s_law_stretch_of_times) := ⟨rfl, rfl, rfl, by decide +kernel, rfl, by decide +kernel, by decide +kernel⟩
abbrev s_law_refused : Stmt := topS 50
theorem sc_law_refused : FnScope ["a", "b", "way", "found"] ["a", "b"] (defScope s_law_refused) := ⟨rfl, rfl, rfl, by decide +kernel, rfl, by decide +kernel, by decide +kernel⟩
abbrev s_law : Stmt := topS 51
theorem sc_law : FnScope ["script", "d", "a", "b", "way_a", "way_b", "due", "told", "middle", "flat"] ["script"] (defScope s_law) := ⟨rfl, rfl, rfl, by decide +kernel, rfl, by decide +kernel, by decide +kernel⟩
/-- what the top has written -/
structure Top (K : PySem.W.Frag) (mg : Str → Option Value) (base : Heap) where
  f_plus : Addr
  d_plus : FuncData
  F_plus : Fun K "plus" "plus" s_plus f_plus d_plus
  g_plus : mg "plus" = some (.ref f_plus)
  b_plus : Binds K d_plus ["a", "b"] []
  f_minus : Addr
  d_minus : FuncData
  F_minus : Fun K "minus" "minus" s_minus f_minus d_minus
  g_minus : mg "minus" = some (.ref f_minus)
  b_minus : Binds K d_minus ["a", "b"] []
  f_times : Addr
  d_times : FuncData
  F_times : Fun K "times" "times" s_times f_times d_times
  g_times : mg "times" = some (.ref f_times)
  b_times : Binds K d_times ["a", "b"] []
  f_over : Addr
  d_over : FuncData
  F_over : Fun K "over" "over" s_over f_over d_over
  g_over : mg "over" = some (.ref f_over)
  b_over : Binds K d_over ["a", "b"] []
  f_compare : Addr
  d_compare : FuncData
  F_compare : Fun K "compare" "compare" s_compare f_compare d_compare
  g_compare : mg "compare" = some (.ref f_compare)
  b_compare : Binds K d_compare ["a", "b"] []
  f_least : Addr
  d_least : FuncData
  F_least : Fun K "least" "least" s_least f_least d_least
  g_least : mg "least" = some (.ref f_least)
  b_least : Binds K d_least ["items"] []
  f_greatest : Addr
  d_greatest : FuncData
  F_greatest : Fun K "greatest" "greatest" s_greatest f_greatest d_greatest
  g_greatest : mg "greatest" = some (.ref f_greatest)
  b_greatest : Binds K d_greatest ["items"] []
  f_subtract : Addr
  d_subtract : FuncData
  F_subtract : Fun K "subtract" "subtract" s_subtract f_subtract d_subtract
  g_subtract : mg "subtract" = some (.ref f_subtract)
  b_subtract : Binds K d_subtract ["a", "b"] []
  f_is_sized : Addr
  d_is_sized : FuncData
  F_is_sized : Fun K "is_sized" "is_sized" s_is_sized f_is_sized d_is_sized
  g_is_sized : mg "is_sized" = some (.ref f_is_sized)
  b_is_sized : Binds K d_is_sized ["size"] []
  f_check_box : Addr
  d_check_box : FuncData
  F_check_box : Fun K "check_box" "check_box" s_check_box f_check_box d_check_box
  g_check_box : mg "check_box" = some (.ref f_check_box)
  b_check_box : Binds K d_check_box ["box"] []
  f_ends_of : Addr
  d_ends_of : FuncData
  F_ends_of : Fun K "ends_of" "ends_of" s_ends_of f_ends_of d_ends_of
  g_ends_of : mg "ends_of" = some (.ref f_ends_of)
  b_ends_of : Binds K d_ends_of ["box"] []
  f_passing : Addr
  d_passing : FuncData
  F_passing : Fun K "passing" "passing" s_passing f_passing d_passing
  g_passing : mg "passing" = some (.ref f_passing)
  b_passing : Binds K d_passing ["low", "high", "way"] []
  f_common_span : Addr
  d_common_span : FuncData
  F_common_span : Fun K "common_span" "common_span" s_common_span f_common_span d_common_span
  g_common_span : mg "common_span" = some (.ref f_common_span)
  b_common_span : Binds K d_common_span ["spans"] []
  f_overlap_times : Addr
  d_overlap_times : FuncData
  F_overlap_times : Fun K "overlap_times" "overlap_times" s_overlap_times f_overlap_times d_overlap_times
  g_overlap_times : mg "overlap_times" = some (.ref f_overlap_times)
  b_overlap_times : Binds K d_overlap_times ["a", "move_a", "b", "move_b"] []
  f_first_contact : Addr
  d_first_contact : FuncData
  F_first_contact : Fun K "first_contact" "first_contact" s_first_contact f_first_contact d_first_contact
  g_first_contact : mg "first_contact" = some (.ref f_first_contact)
  b_first_contact : Binds K d_first_contact ["a", "move_a", "b", "move_b"] []
  f_law_begin : Addr
  d_law_begin : FuncData
  F_law_begin : Fun K "_law_begin" "_law_begin" s_law_begin f_law_begin d_law_begin
  g_law_begin : mg "_law_begin" = some (.ref f_law_begin)
  b_law_begin : Binds K d_law_begin ["script"] []
  f_law_take : Addr
  d_law_take : FuncData
  F_law_take : Fun K "_law_take" "_law_take" s_law_take f_law_take d_law_take
  g_law_take : mg "_law_take" = some (.ref f_law_take)
  b_law_take : Binds K d_law_take ["d", "many"] []
  f_law_signed : Addr
  d_law_signed : FuncData
  F_law_signed : Fun K "_law_signed" "_law_signed" s_law_signed f_law_signed d_law_signed
  g_law_signed : mg "_law_signed" = some (.ref f_law_signed)
  b_law_signed : Binds K d_law_signed ["d", "most"] []
  f_law_gcd : Addr
  d_law_gcd : FuncData
  F_law_gcd : Fun K "_law_gcd" "_law_gcd" s_law_gcd f_law_gcd d_law_gcd
  g_law_gcd : mg "_law_gcd" = some (.ref f_law_gcd)
  b_law_gcd : Binds K d_law_gcd ["a", "b"] []
  f_law_f : Addr
  d_law_f : FuncData
  F_law_f : Fun K "_law_f" "_law_f" s_law_f f_law_f d_law_f
  g_law_f : mg "_law_f" = some (.ref f_law_f)
  b_law_f : Binds K d_law_f ["a", "b"] []
  f_law_plus : Addr
  d_law_plus : FuncData
  F_law_plus : Fun K "_law_plus" "_law_plus" s_law_plus f_law_plus d_law_plus
  g_law_plus : mg "_law_plus" = some (.ref f_law_plus)
  b_law_plus : Binds K d_law_plus ["a", "b"] []
  f_law_minus : Addr
  d_law_minus : FuncData
  F_law_minus : Fun K "_law_minus" "_law_minus" s_law_minus f_law_minus d_law_minus
  g_law_minus : mg "_law_minus" = some (.ref f_law_minus)
  b_law_minus : Binds K d_law_minus ["a", "b"] []
  f_law_times : Addr
  d_law_times : FuncData
  F_law_times : Fun K "_law_times" "_law_times" s_law_times f_law_times d_law_times
  g_law_times : mg "_law_times" = some (.ref f_law_times)
  b_law_times : Binds K d_law_times ["a", "b"] []
  f_law_less : Addr
  d_law_less : FuncData
  F_law_less : Fun K "_law_less" "_law_less" s_law_less f_law_less d_law_less
  g_law_less : mg "_law_less" = some (.ref f_law_less)
  b_law_less : Binds K d_law_less ["a", "b"] []
  f_law_max : Addr
  d_law_max : FuncData
  F_law_max : Fun K "_law_max" "_law_max" s_law_max f_law_max d_law_max
  g_law_max : mg "_law_max" = some (.ref f_law_max)
  b_law_max : Binds K d_law_max ["a", "b"] []
  f_law_part : Addr
  d_law_part : FuncData
  F_law_part : Fun K "_law_part" "_law_part" s_law_part f_law_part d_law_part
  g_law_part : mg "_law_part" = some (.ref f_law_part)
  b_law_part : Binds K d_law_part ["d", "most"] []
  f_law_vector : Addr
  d_law_vector : FuncData
  F_law_vector : Fun K "_law_vector" "_law_vector" s_law_vector f_law_vector d_law_vector
  g_law_vector : mg "_law_vector" = some (.ref f_law_vector)
  b_law_vector : Binds K d_law_vector ["d", "most"] []
  f_law_high : Addr
  d_law_high : FuncData
  F_law_high : Fun K "_law_high" "_law_high" s_law_high f_law_high d_law_high
  g_law_high : mg "_law_high" = some (.ref f_law_high)
  b_law_high : Binds K d_law_high ["box", "k"] []
  f_law_gap : Addr
  d_law_gap : FuncData
  F_law_gap : Fun K "_law_gap" "_law_gap" s_law_gap f_law_gap d_law_gap
  g_law_gap : mg "_law_gap" = some (.ref f_law_gap)
  b_law_gap : Binds K d_law_gap ["a", "b", "k"] []
  f_law_over : Addr
  d_law_over : FuncData
  F_law_over : Fun K "_law_over" "_law_over" s_law_over f_law_over d_law_over
  g_law_over : mg "_law_over" = some (.ref f_law_over)
  b_law_over : Binds K d_law_over ["a", "b"] []
  f_law_size : Addr
  d_law_size : FuncData
  F_law_size : Fun K "_law_size" "_law_size" s_law_size f_law_size d_law_size
  g_law_size : mg "_law_size" = some (.ref f_law_size)
  b_law_size : Binds K d_law_size ["d"] []
  f_law_beside : Addr
  d_law_beside : FuncData
  F_law_beside : Fun K "_law_beside" "_law_beside" s_law_beside f_law_beside d_law_beside
  g_law_beside : mg "_law_beside" = some (.ref f_law_beside)
  b_law_beside : Binds K d_law_beside ["d", "box", "size"] []
  f_law_box : Addr
  d_law_box : FuncData
  F_law_box : Fun K "_law_box" "_law_box" s_law_box f_law_box d_law_box
  g_law_box : mg "_law_box" = some (.ref f_law_box)
  b_law_box : Binds K d_law_box ["d", "boxes"] []
  f_law_put : Addr
  d_law_put : FuncData
  F_law_put : Fun K "_law_put" "_law_put" s_law_put f_law_put d_law_put
  g_law_put : mg "_law_put" = some (.ref f_law_put)
  b_law_put : Binds K d_law_put ["a", "way", "t"] []
  f_law_sorted : Addr
  d_law_sorted : FuncData
  F_law_sorted : Fun K "_law_sorted" "_law_sorted" s_law_sorted f_law_sorted d_law_sorted
  g_law_sorted : mg "_law_sorted" = some (.ref f_law_sorted)
  b_law_sorted : Binds K d_law_sorted ["items"] []
  f_law_moments : Addr
  d_law_moments : FuncData
  F_law_moments : Fun K "_law_moments" "_law_moments" s_law_moments f_law_moments d_law_moments
  g_law_moments : mg "_law_moments" = some (.ref f_law_moments)
  b_law_moments : Binds K d_law_moments ["a", "way_a", "b", "way_b"] []
  f_law_stretch_of_times : Addr
  d_law_stretch_of_times : FuncData
  F_law_stretch_of_times : Fun K "_law_stretch_of_times" "_law_stretch_of_times" s_law_stretch_of_times f_law_stretch_of_times d_law_stretch_of_times
  g_law_stretch_of_times : mg "_law_stretch_of_times" = some (.ref f_law_stretch_of_times)
  b_law_stretch_of_times : Binds K d_law_stretch_of_times ["a", "way_a", "b", "way_b"] []
  f_law_refused : Addr
  d_law_refused : FuncData
  F_law_refused : Fun K "_law_refused" "_law_refused" s_law_refused f_law_refused d_law_refused
  g_law_refused : mg "_law_refused" = some (.ref f_law_refused)
  b_law_refused : Binds K d_law_refused ["a", "b"] []
  f_law : Addr
  d_law : FuncData
  F_law : Fun K "law" "law" s_law f_law d_law
  g_law : mg "law" = some (.ref f_law)
  b_law : Binds K d_law ["script"] []
  k_ZERO : Addr
  gk_ZERO : mg "ZERO" = some (.ref k_ZERO)
  dk_ZERO : ∀ G, SqT K G k_ZERO [.int 0, .int 1]
  k_ONE : Addr
  gk_ONE : mg "ONE" = some (.ref k_ONE)
  dk_ONE : ∀ G, SqT K G k_ONE [.int 1, .int 1]
  c_ZeroDenominator : Addr
  gc_ZeroDenominator : mg "ZeroDenominator" = some (.ref c_ZeroDenominator)
  xc_ZeroDenominator : PySem.W.excIn K c_ZeroDenominator [.type "ValueError", .type "Exception", .type "BaseException", .type "object"] "ValueError.__new__" = true
  kc_ZeroDenominator : PySem.W.keepIn K (.ref c_ZeroDenominator) = true
  bc_ZeroDenominator : PySem.W.subIn K (.ref c_ZeroDenominator) (.type "BaseException") = some true
  tc_ZeroDenominator : PySem.W.typeIn K (.ref c_ZeroDenominator) = some (.type "type")
  hc_ZeroDenominator : PySem.W.hasDictIn K c_ZeroDenominator = true
  c_BoxError : Addr
  gc_BoxError : mg "BoxError" = some (.ref c_BoxError)
  xc_BoxError : PySem.W.excIn K c_BoxError [.type "ValueError", .type "Exception", .type "BaseException", .type "object"] "ValueError.__new__" = true
  kc_BoxError : PySem.W.keepIn K (.ref c_BoxError) = true
  bc_BoxError : PySem.W.subIn K (.ref c_BoxError) (.type "BaseException") = some true
  tc_BoxError : PySem.W.typeIn K (.ref c_BoxError) = some (.type "type")
  hc_BoxError : PySem.W.hasDictIn K c_BoxError = true
  ac_ZeroDenominator_ZeroDenominator : PySem.W.subIn K (.ref c_ZeroDenominator) (.ref c_ZeroDenominator) = some true
  ac_BoxError_BoxError : PySem.W.subIn K (.ref c_BoxError) (.ref c_BoxError) = some true
  n_abs : mg "abs" = none
  n_int : mg "int" = none
  n_len : mg "len" = none
  n_list : mg "list" = none
  n_range : mg "range" = none
  n_zip : mg "zip" = none
  n_gcd : mg "gcd" = some (.builtin "math.gcd")
/-- the tables of code objects that are written -/
abbrev Top.tabs {K : PySem.W.Frag} {mg : Str → Option Value} {base : Heap} (Tp : Top K mg base) : List Addr := []

def ROver (C : Addr) (ds : List Dat) (r : Res) : Prop := ∃ a b : F, ds = [.d (fr a), .d (fr b)] ∧ PL.Ok 4000 a ∧ PL.Ok 4000 b ∧ ((b.1 ≠ 0 ∧ r = .ok (.d (fr (overM a b)))) ∨ (b.1 = 0 ∧ r = .err C))
theorem ok_inv {n : Nat} {b : F} (hb : PL.Ok n b) (h : b.1 ≠ 0) : PL.Ok n (invM b) := ⟨inv_nrm hb.nrm h, by
  unfold invM
  split
  · exact ⟨sz_neg hb.sz.2, sz_neg hb.sz.1⟩
  · exact ⟨hb.sz.2, hb.sz.1⟩⟩
theorem ok_over {m n : Nat} {a b : F} (ha : PL.Ok m a) (hb : PL.Ok n b) (h : b.1 ≠ 0) : PL.Ok (m + n) (overM a b) := PL.ok_times ha (ok_inv hb h)
def RCmp (ds : List Dat) (d : Dat) : Prop := ∃ a b : F, ds = [.d (fr a), .d (fr b)] ∧ PL.Ok 4000 a ∧ PL.Ok 4000 b ∧ d = .i (cmpM a b)
theorem less_cmp (w b : F) : less w b = decide (cmpM w b < 0) := by
  unfold less cmpM
  split
  · rename_i c
    rw [decide_eq_true c]
    rfl
  · rename_i c
    rw [decide_eq_false c]
    split <;> rfl
theorem more_cmp (w b : F) : more w b = decide (0 < cmpM w b) := by
  unfold more less cmpM
  split
  · rename_i c
    rw [decide_eq_false (by omega)]
    rfl
  · split
    · rename_i c
      rw [decide_eq_true c]
      rfl
    · rename_i c
      rw [decide_eq_false c]
      rfl
def RBest (f : F → F → Bool) (ds : List Dat) (d : Dat) : Prop := ∃ (x : F) (xs : List F), ds = [.t (fr x :: xs.map fr)] ∧ (∀ y ∈ x :: xs, PL.Ok 4000 y) ∧ d = .d (fr (bestL f x (x :: xs)))
def RLess (ds : List Dat) (d : Dat) : Prop := ∃ a b : F, ds = [.d (fr a), .d (fr b)] ∧ PL.Ok 4000 a ∧ PL.Ok 4000 b ∧ d = .b (less a b)
/-- boxes -/
structure Bx where
  p0 : F
  p1 : F
  s0 : F
  s1 : F
abbrev bxd (b : Bx) : PyData := .tuple [.tuple [fr b.p0, fr b.p1], .tuple [fr b.s0, fr b.s1]]
abbrev vcd (a b : F) : PyData := .tuple [fr a, fr b]
def Bx.sized (b : Bx) : Bool := decide (0 < b.s0.1) && decide (0 < b.s1.1)
def RSized (ds : List Dat) (d : Dat) : Prop := ∃ a b : F, ds = [.t [fr a, fr b]] ∧ d = .b (decide (0 < a.1) && decide (0 < b.1))
def RCheck (C : Addr) (ds : List Dat) (r : Res) : Prop := ∃ b : Bx, ds = [.d (bxd b)] ∧ ((b.sized = true ∧ r = .ok (.d .none)) ∨ (b.sized = false ∧ r = .err C))
def REnds (ds : List Dat) (d : Dat) : Prop := ∃ b : Bx, ds = [.d (bxd b)] ∧ PL.Ok 4000 b.p0 ∧ PL.Ok 4000 b.p1 ∧ PL.Ok 4000 b.s0 ∧ PL.Ok 4000 b.s1 ∧ d = .t [vcd b.p0 (plusM b.p0 b.s0), vcd b.p1 (plusM b.p1 b.s1)]
def spanOf (lo hi w : F) : F × F := if 0 < w.1 then (overM lo w, overM hi w) else (overM hi w, overM lo w)
abbrev pr (s : F × F) : PyData := .tuple [fr s.1, fr s.2]
def RPassing (ds : List Dat) (r : Res) : Prop := ∃ lo hi w : F, ds = [.d (fr lo), .d (fr hi), .d (fr w)] ∧ PL.Ok 4000 lo ∧ PL.Ok 4000 hi ∧ PL.Ok 4000 w ∧ w.1 ≠ 0 ∧ r = .ok (.d (pr (spanOf lo hi w)))
def RCommon (ds : List Dat) (d : Dat) : Prop := ∃ sp : List (F × F), ds = [.d (.list (sp.map pr))] ∧ (∀ s ∈ sp, PL.Ok 4000 s.1 ∧ PL.Ok 4000 s.2) ∧ d = .d (pr (fstM sp, lstM sp))
theorem ok_c0 {n : Nat} (h : 2 ≤ n) : PL.Ok n ((0, 1) : F) := PL.Ok.mono (m := 2) ⟨⟨by decide, by decide⟩, ⟨by decide, by decide⟩⟩ h
theorem ok_c1 {n : Nat} (h : 2 ≤ n) : PL.Ok n ((1, 1) : F) := PL.Ok.mono (m := 2) ⟨⟨by decide, by decide⟩, ⟨by decide, by decide⟩⟩ h
theorem fst_in {n : Nat} {sp : List (F × F)} (h : ∀ s ∈ sp, PL.Ok n s.1) (hn : 2 ≤ n := by decide) : PL.Ok n (fstM sp) := by
  obtain ⟨h1, _⟩ := fst_ok sp (0, 1) (by decide) fun s hs => (h s hs).nrm.1
  rcases h1 with e | ⟨s, hs, e⟩
  · have e' : fstM sp = (0, 1) := e
    rw [e']
    exact ok_c0 hn
  · have e' : fstM sp = s.1 := e
    rw [e']
    exact h s hs
theorem lst_in {n : Nat} {sp : List (F × F)} (h : ∀ s ∈ sp, PL.Ok n s.2) (hn : 2 ≤ n := by decide) : PL.Ok n (lstM sp) := by
  obtain ⟨h1, _⟩ := lst_ok sp (1, 1) (by decide) fun s hs => (h s hs).nrm.1
  rcases h1 with e | ⟨s, hs, e⟩
  · have e' : lstM sp = (1, 1) := e
    rw [e']
    exact ok_c1 hn
  · have e' : lstM sp = s.2 := e
    rw [e']
    exact h s hs
/-- the sizes of what a ray is asked about -/
structure RaySz (b : Bx) (o0 o1 w0 w1 : F) : Prop where
  a1 : PL.Ok 200 b.p0
  a2 : PL.Ok 200 b.p1
  a3 : PL.Ok 200 b.s0
  a4 : PL.Ok 200 b.s1
  a5 : PL.Ok 200 o0
  a6 : PL.Ok 200 o1
  a7 : PL.Ok 200 w0
  a8 : PL.Ok 200 w1
def cxA (p s o w : F) : Ax := ⟨p, plusM p s, o, w⟩
structure AxSz (a : Ax) : Prop where
  l : PL.Ok 401 a.l
  h : PL.Ok 401 a.h
  o : PL.Ok 200 a.o
  w : PL.Ok 200 a.w
theorem AxSz.mlo {a : Ax} (s : AxSz a) : PL.Ok 4000 (minusM a.l a.o) := (PL.ok_minus s.l s.o).mono (by decide)
theorem AxSz.mho {a : Ax} (s : AxSz a) : PL.Ok 4000 (minusM a.h a.o) := (PL.ok_minus s.h s.o).mono (by decide)
theorem AxSz.ok {a : Ax} (s : AxSz a) : a.Ok := ⟨s.l.nrm, s.h.nrm, s.o.nrm, s.w.nrm⟩
theorem cx_sz {b : Bx} {o0 o1 w0 w1 : F} (k : RaySz b o0 o1 w0 w1) : AxSz (cxA b.p0 b.s0 o0 w0) ∧ AxSz (cxA b.p1 b.s1 o1 w1) :=
  ⟨⟨k.a1.mono (by decide), PL.ok_plus k.a1 k.a3, k.a5, k.a7⟩, ⟨k.a2.mono (by decide), PL.ok_plus k.a2 k.a4, k.a6, k.a8⟩⟩
def optD : Option (F × F) → PyData
  | none => .none
  | some s => pr s
def timeD : Option (F × F) → PyData
  | none => .none
  | some s => fr s.1
def RStretch (C : Addr) (ds : List Dat) (r : Res) : Prop := ∃ (b : Bx) (o0 o1 w0 w1 : F), ds = [.d (bxd b), .d (vcd o0 o1), .d (vcd w0 w1)] ∧ RaySz b o0 o1 w0 w1 ∧ ((b.sized = true ∧ r = .ok (.d (optD (rayM (cxA b.p0 b.s0 o0 w0) (cxA b.p1 b.s1 o1 w1))))) ∨ (b.sized = false ∧ r = .err C))
def RWithin (ds : List Dat) (r : Res) : Prop := ∃ (b : Bx) (o0 o1 w0 w1 : F), ds = [.t [vcd b.p0 (plusM b.p0 b.s0), vcd b.p1 (plusM b.p1 b.s1)], .d (vcd o0 o1), .d (vcd w0 w1)] ∧ RaySz b o0 o1 w0 w1 ∧ r = .ok (.d (optD (rayM (cxA b.p0 b.s0 o0 w0) (cxA b.p1 b.s1 o1 w1))))
def RWithinT (ds : List Dat) (r : Res) : Prop := ∃ (b : Bx) (o0 o1 w0 w1 : F), ds = [.t [vcd b.p0 (plusM b.p0 b.s0), vcd b.p1 (plusM b.p1 b.s1)], .d (vcd o0 o1), .d (vcd w0 w1)] ∧ RaySz b o0 o1 w0 w1 ∧ r = .ok (.d (timeD (rayM (cxA b.p0 b.s0 o0 w0) (cxA b.p1 b.s1 o1 w1))))
def RTime (C : Addr) (ds : List Dat) (r : Res) : Prop := ∃ (b : Bx) (o0 o1 w0 w1 : F), ds = [.d (bxd b), .d (vcd o0 o1), .d (vcd w0 w1)] ∧ RaySz b o0 o1 w0 w1 ∧ ((b.sized = true ∧ r = .ok (.d (timeD (rayM (cxA b.p0 b.s0 o0 w0) (cxA b.p1 b.s1 o1 w1))))) ∨ (b.sized = false ∧ r = .err C))
theorem out_tt {a : Ax} (h : a.out = true) : a.w.1 = 0 ∧ (decide (0 < (minusM a.l a.o).1) || decide ((minusM a.h a.o).1 < 0)) = true := by
  unfold Ax.out at h
  rw [Bool.and_eq_true] at h
  exact ⟨by simpa using h.1, h.2⟩
theorem out_ff {a : Ax} (h : a.out = false) (z : a.w.1 = 0) : (decide (0 < (minusM a.l a.o).1) || decide ((minusM a.h a.o).1 < 0)) = false := by
  unfold Ax.out at h
  rw [z] at h
  simpa using h
theorem spans_no {a : Ax} (h : a.w.1 = 0) : a.spans = [] := if_pos h
theorem spans_yes {a : Ax} (h : a.w.1 ≠ 0) : a.spans = [spanOf (minusM a.l a.o) (minusM a.h a.o) a.w] := by
  unfold Ax.spans Ax.span spanOf
  rw [if_neg h]
theorem spans_lt (a : Ax) : (a.spans.map pr).length < 100000 := by
  rw [List.length_map]
  unfold Ax.spans
  split
  · decide
  · exact (by decide : 1 < 100000)
theorem spans_sz {a : Ax} (s : AxSz a) : ∀ x ∈ a.spans, PL.Ok 1000 x.1 ∧ PL.Ok 1000 x.2 := fun x hx => by
  by_cases c : a.w.1 = 0
  · rw [spans_no c] at hx
    simp at hx
  · rw [spans_yes c] at hx
    obtain rfl := List.mem_singleton.mp hx
    have h1 := ok_over (PL.ok_minus s.l s.o) s.w c
    have h2 := ok_over (PL.ok_minus s.h s.o) s.w c
    unfold spanOf
    split
    · exact ⟨h1.mono (by decide), h2.mono (by decide)⟩
    · exact ⟨h2.mono (by decide), h1.mono (by decide)⟩
theorem s_rtP {K : PySem.W.Frag} {ρ : Rho} {I J J' : Asn} {d : Dat} {ts : TS} (hj : ∀ G H, J.ok G H → J'.ok G H) (h : S K ts ρ I (.rt d J)) : S K ts ρ I (.rt d J') := fun G H σ D gh en io f => h G H σ D gh en io fun v G2 H2 g2 gh2 j dv => f v G2 H2 g2 gh2 (hj _ _ j) dv
def RHigh (ds : List Dat) (d : Dat) : Prop := ∃ (b : Bx) (k : Int), ds = [.d (bxd b), .i k] ∧ (k = 0 ∨ k = 1) ∧ PL.Ok 4000 b.p0 ∧ PL.Ok 4000 b.p1 ∧ PL.Ok 4000 b.s0 ∧ PL.Ok 4000 b.s1 ∧ d = .d (fr (if k = 0 then plusM b.p0 b.s0 else plusM b.p1 b.s1))
def sizeM (C : DS) : (F × F) × DS :=
  let a := take C 6
  let b := take a.2 2
  let c := take b.2 6
  let e := take c.2 2
  ((lf (1 + a.1) (1 + b.1), lf (1 + c.1) (1 + e.1)), e.2)
theorem lf_up {n d : Int} (hn : 0 < n) (hd : 0 < d) : 0 < (lf n d).1 := by
  have h1 := lf_cross (n := n) (d := d) (by omega)
  have h2 := (lf_nrm (n := n) (d := d) (by omega)).1
  have h3 := Int.mul_pos hn h2
  rw [← h1] at h3
  exact Int.pos_of_mul_pos_left h3 hd
theorem size_ok {C : DS} (ok : DOk C) : DOk (sizeM C).2 ∧ PL.Ok 10 (sizeM C).1.1 ∧ PL.Ok 10 (sizeM C).1.2 ∧ 0 < (sizeM C).1.1.1 ∧ 0 < (sizeM C).1.2.1 := by
  obtain ⟨o1, a1, a2⟩ := take_ok (C := C) (m := 6) ok (by decide)
  obtain ⟨o2, b1, b2⟩ := take_ok (C := (take C 6).2) (m := 2) o1 (by decide)
  obtain ⟨o3, c1, c2⟩ := take_ok (C := (take (take C 6).2 2).2) (m := 6) o2 (by decide)
  obtain ⟨o4, e1, e2⟩ := take_ok (C := (take (take (take C 6).2 2).2 6).2) (m := 2) o3 (by decide)
  exact ⟨o4, PL.ok_lf (by omega) (by omega) (by omega), PL.ok_lf (by omega) (by omega) (by omega), lf_up (by omega) (by omega), lf_up (by omega) (by omega)⟩
def RSize (ds : List Dat) (C : DS) (d : Dat) (C' : DS) : Prop := ds = [] ∧ DOk C ∧ d = .t [fr (sizeM C).1.1, fr (sizeM C).1.2] ∧ C' = (sizeM C).2
def boxM (C : DS) : Bx × DS := (⟨(vecM (sizeM C).2 5).1.1, (vecM (sizeM C).2 5).1.2, (sizeM C).1.1, (sizeM C).1.2⟩, (vecM (sizeM C).2 5).2)
def RBox (ds : List Dat) (C : DS) (d : Dat) (C' : DS) : Prop := ds = [.d (.list [])] ∧ DOk C ∧ d = .d (bxd (boxM C).1) ∧ C' = (boxM C).2
theorem ins_len (x : F) (out : List F) : (ins x out).length ≤ out.length + 1 := by
  unfold ins
  have h := List.length_filter_le (fun y => less y x) out
  generalize (out.filter fun y => less y x).length = n at *
  show (if n = out.length ∨ out[n]? ≠ some x then out.take n ++ [x] ++ out.drop n else out).length ≤ out.length + 1
  split
  · rw [List.length_append, List.length_append, List.length_take, List.length_drop]
    show _ + 1 + _ ≤ _
    omega
  · omega
theorem sort_len (xs : List F) : (sortF xs).length ≤ xs.length := by
  have h : ∀ (xs out : List F), (xs.foldl (fun o x => ins x o) out).length ≤ out.length + xs.length := by
    intro xs
    induction xs with
    | nil => intro out; exact Nat.le_refl _
    | cons x xs ih =>
      intro out
      have h1 := ih (ins x out)
      have h2 := ins_len x out
      show (xs.foldl (fun o x => ins x o) (ins x out)).length ≤ _
      rw [List.length_cons]
      omega
  have := h xs []
  rw [List.length_nil, Nat.zero_add] at this
  exact this
theorem eqv_ne {a b : F} (h : a ≠ b) : PyData.eqv (fr a) (fr b) = false := by
  have e : ¬ (a.1 = b.1 ∧ a.2 = b.2) := fun z => h (Prod.ext z.1 z.2)
  simp only [PyData.eqv, PyData.eqvAll]
  simp
  exact fun z1 z2 => e ⟨z1, z2⟩
def RSorted (ds : List Dat) (d : Dat) : Prop := ∃ xs : List F, ds = [.d (.list (xs.map fr))] ∧ (∀ y ∈ xs, PL.Ok 4000 y) ∧ xs.length ≤ 100 ∧ d = .d (.list ((sortF xs).map fr))
def RIn (ds : List Dat) (d : Dat) : Prop := ∃ (b : Bx) (q0 q1 : F), ds = [.d (bxd b), .t [fr q0, fr q1]] ∧ PL.Ok 200 b.p0 ∧ PL.Ok 200 b.p1 ∧ PL.Ok 200 b.s0 ∧ PL.Ok 200 b.s1 ∧ PL.Ok 4000 q0 ∧ PL.Ok 4000 q1 ∧ d = .b (!(less q0 b.p0 || less (plusM b.p0 b.s0) q0) && !(less q1 b.p1 || less (plusM b.p1 b.s1) q1))
def RPoint (ds : List Dat) (d : Dat) : Prop := ∃ o0 o1 w0 w1 t : F, ds = [.t [fr o0, fr o1], .t [fr w0, fr w1], .d (fr t)] ∧ PL.Ok 200 o0 ∧ PL.Ok 200 o1 ∧ PL.Ok 200 w0 ∧ PL.Ok 200 w1 ∧ PL.Ok 2000 t ∧ d = .t [fr (lplus o0 (ltimes w0 t)), fr (lplus o1 (ltimes w1 t))]
def RRefused (ds : List Dat) (d : Dat) : Prop := ∃ (b : Bx) (o0 o1 : F), ds = [.d (bxd b), .d (vcd o0 o1)] ∧ RaySz b o0 o1 o0 o1 ∧ b.sized = false ∧ d = .b true
theorem s_seqX {K : PySem.W.Frag} {ρ : Rho} {I : Asn} {ts us : TS} {k : Out} {α : Type} (W : α → Prop) (P : α → Rho) (V : α → Asn) (h : ∃ a, W a ∧ S K ts ρ I (.nx (P a) (V a))) (h2 : ∀ a, W a → S K us (P a) (V a) k) : S K (tSeq ts us) ρ I k := h.elim fun a z => s_seq z.2 (h2 a z.1)
theorem box_ok {C : DS} (ok : DOk C) : DOk (boxM C).2 ∧ PL.Ok 5 (boxM C).1.p0 ∧ PL.Ok 5 (boxM C).1.p1 ∧ PL.Ok 10 (boxM C).1.s0 ∧ PL.Ok 10 (boxM C).1.s1 ∧ (boxM C).1.sized = true := by
  obtain ⟨o1, s0, s1, u0, u1⟩ := size_ok ok
  obtain ⟨o2, v0, v1⟩ := vec_ok (C := (sizeM C).2) (m := 5) (n := 3) o1 (by decide) (by decide)
  refine ⟨o2, v0, v1, s0, s1, ?_⟩
  show (decide (0 < (sizeM C).1.1.1) && decide (0 < (sizeM C).1.2.1)) = true
  rw [decide_eq_true u0, decide_eq_true u1]
  rfl
def momL (a : Ax) (L : F) : List F := if a.w.1 = 0 then [] else keepT (tm L a)
theorem frs_snoc (acc : List F) (t : F) : (acc ++ [t]).map fr = acc.map fr ++ [fr t] := List.map_append ..
theorem momL_no {a : Ax} {L : F} (h : a.w.1 = 0) : momL a L = [] := if_pos h
theorem momL_yes {a : Ax} {L : F} (h : a.w.1 ≠ 0) : momL a L = keepT (tm L a) := if_neg h
theorem keep_len (t : F) : (keepT t).length ≤ 1 := by
  unfold keepT
  split
  · exact Nat.le_refl _
  · exact Nat.zero_le _
theorem momL_len (a : Ax) (L : F) : (momL a L).length ≤ 1 := by
  unfold momL
  split
  · decide
  · exact keep_len _
theorem moms_two (a : Ax) : a.moms = momL a a.l ++ momL a a.h := by
  unfold Ax.moms momL
  split <;> rfl
theorem moms_len (a : Ax) : a.moms.length ≤ 2 := by
  rw [moms_two, List.length_append]
  have h1 := momL_len a a.l
  have h2 := momL_len a a.h
  omega
theorem way_sz {L o : F} (hL : PL.Ok 401 L) (ho : PL.Ok 200 o) : PL.Ok 602 (lminus L o) := by
  rw [lminus_eq hL.nrm ho.nrm]
  exact PL.ok_minus hL ho
theorem tm_sz {L : F} {a : Ax} (hL : PL.Ok 401 L) (s : AxSz a) (h : a.w.1 ≠ 0) : PL.Ok 2000 (tm L a) := by
  have m := way_sz hL s.o
  exact PL.ok_lf (Int.mul_ne_zero (by have := m.nrm.1; omega) h) (sz_le (sz_mul m.sz.1 s.w.sz.2) (by decide)) (sz_le (sz_mul m.sz.2 s.w.sz.1) (by decide))
theorem keep_in {t y : F} (h : y ∈ keepT t) : y = t := by
  unfold keepT at h
  split at h
  · exact List.mem_singleton.mp h
  · simp at h
theorem moms_sz {a : Ax} (s : AxSz a) : ∀ y ∈ a.moms, PL.Ok 2000 y := fun y hy => by
  by_cases c : a.w.1 = 0
  · rw [moms_two, momL_no c, momL_no c] at hy
    simp at hy
  · rw [moms_two, momL_yes c, momL_yes c] at hy
    rcases List.mem_append.mp hy with hy | hy
    · rw [keep_in hy]
      exact tm_sz s.l s c
    · rw [keep_in hy]
      exact tm_sz s.h s c
theorem point_sz {o w t : F} (ho : PL.Ok 200 o) (hw : PL.Ok 200 w) (ht : PL.Ok 2000 t) : PL.Ok 4000 (lplus o (ltimes w t)) := by
  have m := PL.ok_times hw ht
  rw [ltimes_eq hw.nrm ht.nrm, lplus_eq ho.nrm m.nrm]
  exact (PL.ok_plus ho m).mono (by decide)
theorem atI_head (x : F) (xs : List F) : atI ((x :: xs).map fr) 0 = some (fr x) := by
  unfold atI ixN
  rw [if_pos (by decide), if_pos (by rw [List.length_map, List.length_cons]; omega)]
  rfl
theorem due_cons (x : F) (xs : List F) : ∃ l, dueM (x :: xs) = some (x, l) ∧ atI ((x :: xs).map fr) (-1) = some (fr l) := by
  have h : (x :: xs).getLast? = some ((x :: xs).getLast (by simp)) := List.getLast?_eq_some_getLast (by simp)
  refine ⟨(x :: xs).getLast (by simp), ?_, ?_⟩
  · unfold dueM
    rw [h]
    rfl
  · generalize (x :: xs).getLast (by simp) = l at *
    rw [List.getLast?_eq_getElem?] at h
    unfold atI ixN
    rw [if_neg (by decide), if_pos (by rw [List.length_map, List.length_cons]; omega)]
    show ((x :: xs).map fr)[(-1 + (((x :: xs).map fr).length : Int)).toNat]? = _
    have e : (-1 + (((x :: xs).map fr).length : Int)).toNat = (x :: xs).length - 1 := by
      rw [List.length_map]
      omega
    rw [e, List.getElem?_map, h]
    rfl
theorem shaped_opt : ∀ R : Option (F × F), SeqAt.shaped (optD R) = true
  | none => rfl
  | some _ => rfl
theorem shaped_time : ∀ R : Option (F × F), SeqAt.shaped (timeD R) = true
  | none => rfl
  | some _ => rfl
theorem eqv_opt : ∀ R : Option (F × F), PyData.eqv (optD R) (optD R) = true
  | none => rfl
  | some s => eqv_v s.1 s.2
theorem eqv_time : ∀ R : Option (F × F), PyData.eqv (timeD R) (timeD R) = true
  | none => rfl
  | some s => eqv_fr s.1


structure SwSz (a b : Bx) (u0 u1 v0 v1 : F) : Prop where
  a0 : PL.Ok 100 a.p0
  a1 : PL.Ok 100 a.p1
  a2 : PL.Ok 100 a.s0
  a3 : PL.Ok 100 a.s1
  b0 : PL.Ok 100 b.p0
  b1 : PL.Ok 100 b.p1
  b2 : PL.Ok 100 b.s0
  b3 : PL.Ok 100 b.s1
  u0 : PL.Ok 100 u0
  u1 : PL.Ok 100 u1
  v0 : PL.Ok 100 v0
  v1 : PL.Ok 100 v1
def sx0 (a b : Bx) (u0 v0 : F) : Sx := ⟨a.p0, a.s0, u0, b.p0, b.s0, v0⟩
def sx1 (a b : Bx) (u1 v1 : F) : Sx := ⟨a.p1, a.s1, u1, b.p1, b.s1, v1⟩
structure SxSz (a : Sx) : Prop where
  la : PL.Ok 100 a.la
  sa : PL.Ok 100 a.sa
  va : PL.Ok 100 a.va
  lb : PL.Ok 100 a.lb
  sb : PL.Ok 100 a.sb
  vb : PL.Ok 100 a.vb
theorem SwSz.x0 {a b : Bx} {u0 u1 v0 v1 : F} (k : SwSz a b u0 u1 v0 v1) : SxSz (sx0 a b u0 v0) := ⟨k.a0, k.a2, k.u0, k.b0, k.b2, k.v0⟩
theorem SwSz.x1 {a b : Bx} {u0 u1 v0 v1 : F} (k : SwSz a b u0 u1 v0 v1) : SxSz (sx1 a b u1 v1) := ⟨k.a1, k.a3, k.u1, k.b1, k.b3, k.v1⟩
theorem SwSz.swap {a b : Bx} {u0 u1 v0 v1 : F} (k : SwSz a b u0 u1 v0 v1) : SwSz b a v0 v1 u0 u1 := ⟨k.b0, k.b1, k.b2, k.b3, k.a0, k.a1, k.a2, k.a3, k.v0, k.v1, k.u0, k.u1⟩
theorem SxSz.ok {a : Sx} (s : SxSz a) : a.Ok := ⟨s.la.nrm, s.sa.nrm, s.va.nrm, s.lb.nrm, s.sb.nrm, s.vb.nrm⟩
theorem SxSz.ha {a : Sx} (s : SxSz a) : PL.Ok 201 (plusM a.la a.sa) := PL.ok_plus s.la s.sa
theorem SxSz.hb {a : Sx} (s : SxSz a) : PL.Ok 201 (plusM a.lb a.sb) := PL.ok_plus s.lb s.sb
theorem SxSz.lo {a : Sx} (s : SxSz a) : PL.Ok 302 a.lo := PL.ok_minus s.la s.hb
theorem SxSz.hi {a : Sx} (s : SxSz a) : PL.Ok 302 a.hi := PL.ok_minus s.ha s.lb
theorem SxSz.w {a : Sx} (s : SxSz a) : PL.Ok 201 a.w := PL.ok_minus s.vb s.va
def RSweep (C : Addr) (ds : List Dat) (r : Res) : Prop := ∃ (a b : Bx) (u0 u1 v0 v1 : F), ds = [.d (bxd a), .d (vcd u0 u1), .d (bxd b), .d (vcd v0 v1)] ∧ SwSz a b u0 u1 v0 v1 ∧ ((a.sized = true ∧ b.sized = true ∧ r = .ok (.d (optD (sweepM (sx0 a b u0 v0) (sx1 a b u1 v1))))) ∨ ((a.sized && b.sized) = false ∧ r = .err C))
def RFirst (C : Addr) (ds : List Dat) (r : Res) : Prop := ∃ (a b : Bx) (u0 u1 v0 v1 : F), ds = [.d (bxd a), .d (vcd u0 u1), .d (bxd b), .d (vcd v0 v1)] ∧ SwSz a b u0 u1 v0 v1 ∧ a.sized = true ∧ b.sized = true ∧ r = .ok (.d (timeD (sweepM (sx0 a b u0 v0) (sx1 a b u1 v1))))
theorem sout_tt {a : Sx} (h : a.out = true) : a.w.1 = 0 ∧ (decide (0 ≤ a.lo.1) || decide (a.hi.1 ≤ 0)) = true := by
  unfold Sx.out at h
  rw [Bool.and_eq_true] at h
  exact ⟨by simpa using h.1, h.2⟩
theorem sout_ff {a : Sx} (h : a.out = false) (z : a.w.1 = 0) : (decide (0 ≤ a.lo.1) || decide (a.hi.1 ≤ 0)) = false := by
  unfold Sx.out at h
  rw [z] at h
  simpa using h
theorem sspans_no {a : Sx} (h : a.w.1 = 0) : a.spans = [] := if_pos h
theorem sspans_yes {a : Sx} (h : a.w.1 ≠ 0) : a.spans = [spanOf a.lo a.hi a.w] := by
  unfold Sx.spans Sx.span spanOf
  rw [if_neg h]
theorem sspans_lt (a : Sx) : (a.spans.map pr).length < 100000 := by
  rw [List.length_map]
  unfold Sx.spans
  split
  · decide
  · exact (by decide : 1 < 100000)
theorem sspans_sz {a : Sx} (s : SxSz a) : ∀ x ∈ a.spans, PL.Ok 600 x.1 ∧ PL.Ok 600 x.2 := fun x hx => by
  by_cases c : a.w.1 = 0
  · rw [sspans_no c] at hx
    simp at hx
  · rw [sspans_yes c] at hx
    obtain rfl := List.mem_singleton.mp hx
    have h1 := ok_over s.lo s.w c
    have h2 := ok_over s.hi s.w c
    unfold spanOf
    split
    · exact ⟨h1.mono (by decide), h2.mono (by decide)⟩
    · exact ⟨h2.mono (by decide), h1.mono (by decide)⟩
def RMax (ds : List Dat) (d : Dat) : Prop := ∃ x y : F, ds = [.d (fr x), .d (fr y)] ∧ PL.Ok 4000 x ∧ PL.Ok 4000 y ∧ d = .d (fr (lmx x y))
/-- a box with ends below 2 ^ 1500 -/
structure BxSz (b : Bx) : Prop where
  p0 : PL.Ok 1500 b.p0
  p1 : PL.Ok 1500 b.p1
  s0 : PL.Ok 100 b.s0
  s1 : PL.Ok 100 b.s1
def RGap (ds : List Dat) (d : Dat) : Prop := ∃ (a b : Bx) (k : Int), ds = [.d (bxd a), .d (bxd b), .i k] ∧ (k = 0 ∨ k = 1) ∧ BxSz a ∧ BxSz b ∧ d = .d (fr (if k = 0 then gapM a.p0 a.s0 b.p0 b.s0 else gapM a.p1 a.s1 b.p1 b.s1))
def ROverB (ds : List Dat) (d : Dat) : Prop := ∃ a b : Bx, ds = [.d (bxd a), .d (bxd b)] ∧ BxSz a ∧ BxSz b ∧ d = .b (decide ((gapM a.p0 a.s0 b.p0 b.s0).1 < 0) && decide ((gapM a.p1 a.s1 b.p1 b.s1).1 < 0))
def besideM (C : DS) (b : Bx) (s0 s1 : F) : (F × F) × DS :=
  let k := take C 2
  let x := partM k.2 2
  let y := partM x.2 2
  let u := take y.2 2
  let t := take u.2 4
  let v0 : F := if u.1 = 1 then plusM b.p0 b.s0 else lminus b.p0 s0
  let v1 : F := if u.1 = 1 then plusM b.p1 b.s1 else lminus b.p1 s1
  if k.1 = 0 then ((v0, if t.1 = 1 then b.p1 else lplus b.p1 y.1), t.2) else ((if t.1 = 1 then b.p0 else lplus b.p0 x.1, v1), t.2)
structure B10 (b : Bx) : Prop where
  p0 : PL.Ok 10 b.p0
  p1 : PL.Ok 10 b.p1
  s0 : PL.Ok 10 b.s0
  s1 : PL.Ok 10 b.s1
def RBeside (ds : List Dat) (C : DS) (d : Dat) (C' : DS) : Prop := ∃ (b : Bx) (s0 s1 : F), ds = [.d (bxd b), .t [fr s0, fr s1]] ∧ DOk C ∧ B10 b ∧ PL.Ok 10 s0 ∧ PL.Ok 10 s1 ∧ d = .t [fr (besideM C b s0 s1).1.1, fr (besideM C b s0 s1).1.2] ∧ C' = (besideM C b s0 s1).2
theorem beside_ok {C : DS} {b : Bx} {s0 s1 : F} (ok : DOk C) (hb : B10 b) (h0 : PL.Ok 10 s0) (h1 : PL.Ok 10 s1) : DOk (besideM C b s0 s1).2 ∧ PL.Ok 21 (besideM C b s0 s1).1.1 ∧ PL.Ok 21 (besideM C b s0 s1).1.2 := by
  obtain ⟨o1, k1, k2⟩ := take_ok (C := C) (m := 2) ok (by decide)
  obtain ⟨o2, px⟩ := part_ok (C := (take C 2).2) (m := 2) (n := 2) o1 (by decide) (by decide)
  obtain ⟨o3, py⟩ := part_ok (C := (partM (take C 2).2 2).2) (m := 2) (n := 2) o2 (by decide) (by decide)
  obtain ⟨o4, u1, u2⟩ := take_ok (C := (partM (partM (take C 2).2 2).2 2).2) (m := 2) o3 (by decide)
  obtain ⟨o5, t1, t2⟩ := take_ok (C := (take (partM (partM (take C 2).2 2).2 2).2 2).2) (m := 4) o4 (by decide)
  have a0 : PL.Ok 21 (plusM b.p0 b.s0) := PL.ok_plus hb.p0 hb.s0
  have a1 : PL.Ok 21 (plusM b.p1 b.s1) := PL.ok_plus hb.p1 hb.s1
  have m0 : PL.Ok 21 (lminus b.p0 s0) := by rw [lminus_eq hb.p0.nrm h0.nrm]; exact PL.ok_minus hb.p0 h0
  have m1 : PL.Ok 21 (lminus b.p1 s1) := by rw [lminus_eq hb.p1.nrm h1.nrm]; exact PL.ok_minus hb.p1 h1
  have q0 : PL.Ok 21 (lplus b.p0 (partM (take C 2).2 2).1) := by rw [lplus_eq hb.p0.nrm px.nrm]; exact (PL.ok_plus hb.p0 px).mono (by decide)
  have q1 : PL.Ok 21 (lplus b.p1 (partM (partM (take C 2).2 2).2 2).1) := by rw [lplus_eq hb.p1.nrm py.nrm]; exact (PL.ok_plus hb.p1 py).mono (by decide)
  have r0 : PL.Ok 21 b.p0 := hb.p0.mono (by decide)
  have r1 : PL.Ok 21 b.p1 := hb.p1.mono (by decide)
  unfold besideM
  dsimp only
  split
  · refine ⟨o5, ?_, ?_⟩
    · show PL.Ok 21 (if _ then _ else _)
      split
      · exact a0
      · exact m0
    · show PL.Ok 21 (if _ then _ else _)
      split
      · exact r1
      · exact q1
  · refine ⟨o5, ?_, ?_⟩
    · show PL.Ok 21 (if _ then _ else _)
      split
      · exact r0
      · exact q0
    · show PL.Ok 21 (if _ then _ else _)
      split
      · exact a1
      · exact m1
def boxG (C : DS) : List Bx → Bx × DS
  | [] => boxM C
  | b :: _ => if 0 < (take (sizeM C).2 3).1 then
      (⟨(besideM (take (take (sizeM C).2 3).2 1).2 b (sizeM C).1.1 (sizeM C).1.2).1.1, (besideM (take (take (sizeM C).2 3).2 1).2 b (sizeM C).1.1 (sizeM C).1.2).1.2, (sizeM C).1.1, (sizeM C).1.2⟩, (besideM (take (take (sizeM C).2 3).2 1).2 b (sizeM C).1.1 (sizeM C).1.2).2)
    else (⟨(vecM (take (sizeM C).2 3).2 5).1.1, (vecM (take (sizeM C).2 3).2 5).1.2, (sizeM C).1.1, (sizeM C).1.2⟩, (vecM (take (sizeM C).2 3).2 5).2)
theorem boxG_ok {C : DS} {b : Bx} (ok : DOk C) (hb : B10 b) : DOk (boxG C [b]).2 ∧ PL.Ok 21 (boxG C [b]).1.p0 ∧ PL.Ok 21 (boxG C [b]).1.p1 ∧ PL.Ok 10 (boxG C [b]).1.s0 ∧ PL.Ok 10 (boxG C [b]).1.s1 ∧ (boxG C [b]).1.sized = true := by
  obtain ⟨o1, y0, y1, u0, u1⟩ := size_ok ok
  obtain ⟨o2, t1, t2⟩ := take_ok (C := (sizeM C).2) (m := 3) o1 (by decide)
  obtain ⟨o3, t3, t4⟩ := take_ok (C := (take (sizeM C).2 3).2) (m := 1) o2 (by decide)
  have sz : (decide (0 < (sizeM C).1.1.1) && decide (0 < (sizeM C).1.2.1)) = true := by
    rw [decide_eq_true u0, decide_eq_true u1]
    rfl
  simp only [boxG]
  split
  · obtain ⟨e1, e2, e3⟩ := beside_ok o3 hb y0 y1
    exact ⟨e1, e2, e3, y0, y1, sz⟩
  · obtain ⟨e1, e2, e3⟩ := vec_ok (C := (take (sizeM C).2 3).2) (m := 5) (n := 3) o2 (by decide) (by decide)
    exact ⟨e1, e2.mono (by decide), e3.mono (by decide), y0, y1, sz⟩
def RBoxG (ds : List Dat) (C : DS) (d : Dat) (C' : DS) : Prop := ∃ bs : List Bx, ds = [.d (.list (bs.map fun b => bxd b))] ∧ bs.length ≤ 1 ∧ (∀ b ∈ bs, B10 b) ∧ DOk C ∧ d = .d (bxd (boxG C bs).1) ∧ C' = (boxG C bs).2
def putM (a : Bx) (w0 w1 t : F) : Bx := ⟨lplus a.p0 (ltimes w0 t), lplus a.p1 (ltimes w1 t), a.s0, a.s1⟩
def RPut (ds : List Dat) (d : Dat) : Prop := ∃ (a : Bx) (w0 w1 t : F), ds = [.d (bxd a), .d (vcd w0 w1), .d (fr t)] ∧ PL.Ok 100 a.p0 ∧ PL.Ok 100 a.p1 ∧ PL.Ok 100 w0 ∧ PL.Ok 100 w1 ∧ PL.Ok 1100 t ∧ d = .d (bxd (putM a w0 w1 t))
def momG (a : Sx) (L : F) : List F := if a.w.1 = 0 then [] else keepT (tmG L a.w)
theorem momG_no {a : Sx} {L : F} (h : a.w.1 = 0) : momG a L = [] := if_pos h
theorem momG_yes {a : Sx} {L : F} (h : a.w.1 ≠ 0) : momG a L = keepT (tmG L a.w) := if_neg h
theorem momG_len (a : Sx) (L : F) : (momG a L).length ≤ 1 := by
  unfold momG
  split
  · decide
  · exact keep_len _
theorem smoms_two (a : Sx) : a.moms = momG a a.hi ++ momG a a.lo := by
  unfold Sx.moms momG
  split <;> rfl
theorem smoms_len (a : Sx) : a.moms.length ≤ 2 := by
  rw [smoms_two, List.length_append]
  have h1 := momG_len a a.hi
  have h2 := momG_len a a.lo
  omega
theorem tmG_sz {g w : F} (hg : PL.Ok 302 g) (hw : PL.Ok 201 w) (h : w.1 ≠ 0) : PL.Ok 510 (tmG g w) :=
  PL.ok_lf (Int.mul_ne_zero (by have := hg.nrm.1; omega) h) (sz_le (sz_mul hg.sz.1 hw.sz.2) (by decide)) (sz_le (sz_mul hg.sz.2 hw.sz.1) (by decide))
theorem smoms_sz {a : Sx} (s : SxSz a) : ∀ y ∈ a.moms, PL.Ok 510 y := fun y hy => by
  by_cases c : a.w.1 = 0
  · rw [smoms_two, momG_no c, momG_no c] at hy
    simp at hy
  · rw [smoms_two, momG_yes c, momG_yes c] at hy
    rcases List.mem_append.mp hy with hy | hy
    · rw [keep_in hy]
      exact tmG_sz s.hi s.w c
    · rw [keep_in hy]
      exact tmG_sz s.lo s.w c
theorem all_sz {a b : Sx} (sA : SxSz a) (sB : SxSz b) : ∀ y ∈ [((0, 1) : F), (1, 1)] ++ a.moms ++ b.moms, PL.Ok 510 y := fun y hy => by
  rcases List.mem_append.mp hy with hy | hy
  · rcases List.mem_append.mp hy with hy | hy
    · rcases List.mem_cons.mp hy with rfl | hy
      · exact ok_c0 (by decide)
      · obtain rfl := List.mem_singleton.mp hy
        exact ok_c1 (by decide)
    · exact smoms_sz sA y hy
  · exact smoms_sz sB y hy
def msM (a b : Sx) : List F := sortF (([(0, 1), (1, 1)] : List F) ++ a.moms ++ b.moms)
def RMoms (ds : List Dat) (d : Dat) : Prop := ∃ (a b : Bx) (u0 u1 v0 v1 : F), ds = [.d (bxd a), .d (vcd u0 u1), .d (bxd b), .d (vcd v0 v1)] ∧ SwSz a b u0 u1 v0 v1 ∧ d = .d (.list ((msM (sx0 a b u0 v0) (sx1 a b u1 v1)).map fr))
abbrev natD (k : Nat) : PyData := .int (k : Nat)
def both (A B : Sx) (t : F) : Bool := A.inside t && B.inside t
def RDueT (ds : List Dat) (d : Dat) : Prop := ∃ (a b : Bx) (u0 u1 v0 v1 : F), ds = [.d (bxd a), .d (vcd u0 u1), .d (bxd b), .d (vcd v0 v1)] ∧ SwSz a b u0 u1 v0 v1 ∧ d = .d (optD (dueK (msM (sx0 a b u0 v0) (sx1 a b u1 v1)) (both (sx0 a b u0 v0) (sx1 a b u1 v1))))
theorem ms_facts {A B : Sx} (sA : SxSz A) (sB : SxSz B) : (∀ y ∈ msM A B, PL.Ok 510 y) ∧ (0, 1) ∈ msM A B ∧ (msM A B).length ≤ 100 := by
  have hz := all_sz sA sB
  have so := sort_ok (xs := [((0, 1) : F), (1, 1)] ++ A.moms ++ B.moms) fun y hy => (hz y hy).nrm
  have sl := sort_len ([((0, 1) : F), (1, 1)] ++ A.moms ++ B.moms)
  have l1 := smoms_len A
  have l2 := smoms_len B
  refine ⟨fun y hy => hz y ((so.2 y).mp hy), (so.2 _).mpr (List.mem_append_left _ (List.mem_append_left _ List.mem_cons_self)), ?_⟩
  refine Nat.le_trans sl ?_
  simp only [List.length_append, List.length_cons, List.length_nil]
  omega
theorem at_getD (ss : List F) (k : Nat) (h : k < ss.length) : atI (ss.map fr) (k : Nat) = some (fr (ss.getD k (0, 1))) := by
  refine atI_nat ?_
  rw [List.getElem?_map, List.getD_eq_getElem?_getD, List.getElem?_eq_getElem h]
  rfl
theorem at_last {α : Type} {xs : List α} {l : α} (h : xs.getLast? = some l) : atI xs (-1) = some l := by
  have hn : 0 < xs.length := by
    cases xs with
    | nil => cases h
    | cons a b => rw [List.length_cons]; omega
  rw [List.getLast?_eq_getElem?] at h
  unfold atI ixN
  rw [if_neg (by decide), if_pos (by omega)]
  show xs[(-1 + (xs.length : Int)).toNat]? = _
  have e : (-1 + (xs.length : Int)).toNat = xs.length - 1 := by omega
  rw [e, h]
theorem rk_succ (pk : Nat → Bool) (i : Nat) : (List.range (i + 1)).filter pk = (List.range i).filter pk ++ (if pk i = true then [i] else []) := by
  rw [List.range_succ, List.filter_append]
  congr 1
  rw [List.filter_cons, List.filter_nil]
theorem ok_half : PL.Ok 2 ((1, 2) : F) := ⟨⟨by decide, by decide⟩, ⟨by decide, by decide⟩⟩
theorem mid_sz {x y : F} (hx : PL.Ok 510 x) (hy : PL.Ok 510 y) : PL.Ok 1021 (lplus x y) ∧ PL.Ok 2 ((1, 2) : F) ∧ PL.Ok 1100 (mid x y) := by
  have a : PL.Ok 1021 (lplus x y) := by rw [lplus_eq hx.nrm hy.nrm]; exact PL.ok_plus hx hy
  refine ⟨a, ok_half, ?_⟩
  unfold mid
  rw [ltimes_eq a.nrm nrm_half]
  exact (PL.ok_times a ok_half).mono (by decide)
theorem mid_sz2 {x y : F} (hx : PL.Ok 510 x) (hy : PL.Ok 510 y) : PL.Ok 1021 (lplus x y) ∧ PL.Ok 2 ((1, 2) : F) ∧ PL.Ok 1100 (mid x y) := mid_sz hx hy
theorem put_sz {a : Bx} {w0 w1 t : F} (h0 : PL.Ok 100 a.p0) (h1 : PL.Ok 100 a.p1) (h2 : PL.Ok 100 a.s0) (h3 : PL.Ok 100 a.s1) (k0 : PL.Ok 100 w0) (k1 : PL.Ok 100 w1) (ht : PL.Ok 1100 t) : BxSz (putM a w0 w1 t) := by
  have m0 := PL.ok_times k0 ht
  have m1 := PL.ok_times k1 ht
  refine ⟨?_, ?_, h2, h3⟩
  · show PL.Ok 1500 (lplus a.p0 (ltimes w0 t))
    rw [ltimes_eq k0.nrm ht.nrm, lplus_eq h0.nrm m0.nrm]
    exact (PL.ok_plus h0 m0).mono (by decide)
  · show PL.Ok 1500 (lplus a.p1 (ltimes w1 t))
    rw [ltimes_eq k1.nrm ht.nrm, lplus_eq h1.nrm m1.nrm]
    exact (PL.ok_plus h1 m1).mono (by decide)
def RRefS (ds : List Dat) (d : Dat) : Prop := ∃ a b : Bx, ds = [.d (bxd a), .d (bxd b)] ∧ SwSz a b (0, 1) (0, 1) (0, 1) (0, 1) ∧ (a.sized && b.sized) = false ∧ d = .b true
theorem sspans_sz' {a : Sx} (s : SxSz a) : ∀ x ∈ a.spans, PL.Ok 510 x.1 ∧ PL.Ok 510 x.2 := fun x hx => by
  by_cases c : a.w.1 = 0
  · rw [sspans_no c] at hx
    simp at hx
  · rw [sspans_yes c] at hx
    obtain rfl := List.mem_singleton.mp hx
    have h1 := ok_over s.lo s.w c
    have h2 := ok_over s.hi s.w c
    unfold spanOf
    split
    · exact ⟨h1.mono (by decide), h2.mono (by decide)⟩
    · exact ⟨h2.mono (by decide), h1.mono (by decide)⟩
theorem sweep_sz {A B : Sx} (sA : SxSz A) (sB : SxSz B) {r : F × F} (h : sweepM A B = some r) : PL.Ok 510 r.1 ∧ PL.Ok 510 r.2 := by
  unfold sweepM at h
  split at h
  · cases h
  · unfold spanS at h
    split at h
    · obtain rfl := Option.some.inj h
      have hs : ∀ s ∈ A.spans ++ B.spans, PL.Ok 510 s.1 ∧ PL.Ok 510 s.2 := fun s hs => by
        rcases List.mem_append.mp hs with hs | hs
        · exact sspans_sz' sA s hs
        · exact sspans_sz' sB s hs
      exact ⟨fst_in (fun s z => (hs s z).1), lst_in (fun s z => (hs s z).2)⟩
    · cases h

section
variable {P : Program} {w : World} {K : PySem.W.Frag} {mg : Str → Option Value} {base : Heap}
theorem fok_plus (Tp : Top K mg base) : FnOk P w K mg base CX0 1 Tp.f_plus Tp.d_plus ["a", "b"] (spP K (RPlus plusM)) := by
  refine Tp.F_plus.ok sc_plus (fun vs H Q E h => len_P (fun _ _ z => z.len) h) (fun cdv A outer s H vs Q E hr h => ?_)
  refine ⟨_, (pss_cons (ps_set (i := 2) sc_plus.nd rfl (.inl rfl) (pe_callBfun cr_gcd (by rfl) Tp.n_gcd (pa_cons (pe_ix (r := rIxT K) ix_tup (pv 0) pe_int (fun _ _ => rfl)) (pa_cons (pe_ix (r := rIxT K) ix_tup (pv 1) pe_int (fun _ _ => rfl)) pa_nil))))
      (pss_cons (ps_set (i := 3) sc_plus.nd rfl (.inl rfl) (pe_op op_fdivW (pe_ix (r := rIxT K) ix_tup (pv 0) pe_int (fun _ _ => rfl)) (pv 2)))
      (pss_cons (ps_set (i := 4) sc_plus.nd rfl (.inl rfl) (pe_op op_add (pe_op op_mulW (pe_ix (r := rIxT K) ix_tup (pv 0) pe_int (fun _ _ => rfl)) (pe_op op_fdivW (pe_ix (r := rIxT K) ix_tup (pv 1) pe_int (fun _ _ => rfl)) (pv 2))) (pe_op op_mulW (pe_ix (r := rIxT K) ix_tup (pv 1) pe_int (fun _ _ => rfl)) (pv 3))))
      (pss_cons (ps_set (i := 5) sc_plus.nd rfl (.inl rfl) (pe_callBfun cr_gcd (by rfl) Tp.n_gcd (pa_cons (pv 4) (pa_cons (pv 2) pa_nil))))
      (pss_one (ps_ret (pe_tup (pa_cons (pe_op op_fdivW (pv 4) (pv 5)) (pa_cons (pe_op op_mulW (pv 3) (pe_op op_fdivW (pe_ix (r := rIxT K) ix_tup (pv 1) pe_int (fun _ _ => rfl)) (pv 5))) pa_nil))))))))), body_P ?_ h⟩
  refine fun ds d r I => ?_
  obtain ⟨a, b, rfl, ha, hb, rfl⟩ := r
  walk_at "norm"
  have pa := ha.nrm.1
  have pb := hb.nrm.1
  
  have s0 : Int.gcd a.2 b.2 ≠ 0 := Int.gcd_ne_zero_right (by omega)
  have z1 : ((Int.gcd a.2 b.2 : Nat) : Int).natAbs < 2 ^ 4000 := sz_gcd hb.sz.2 (by omega)
  have z2 := sz_div ha.sz.2 (Int.gcd_dvd_left a.2 b.2)
  have z3 := sz_div hb.sz.2 (Int.gcd_dvd_right a.2 b.2)
  have hg : (0 : Int) < (Int.gcd a.2 b.2 : Nat) := by omega
  refine q_asg (d := .i (Int.gcd a.2 b.2 : Nat)) (by walk_at "ev") ?_
  refine q_asg (d := .i (a.2 / (Int.gcd a.2 b.2 : Nat))) (by walk_at "ev"; exact divW hg z1 (by decide)) ?_
  refine q_asg (d := .i (a.1 * (b.2 / (Int.gcd a.2 b.2 : Nat)) + b.1 * (a.2 / (Int.gcd a.2 b.2 : Nat)))) ?_ ?_
  · walk_at "ev"
    · exact divW hg z1 (by decide)
    · exact mulW ha.sz.1 z3 (by decide)
    · exact mulW hb.sz.1 z2 (by decide)
  · generalize hn : a.1 * (b.2 / (Int.gcd a.2 b.2 : Nat)) + b.1 * (a.2 / (Int.gcd a.2 b.2 : Nat)) = n
    have v0 : Int.gcd n (Int.gcd a.2 b.2 : Nat) ≠ 0 := Int.gcd_ne_zero_right (by omega)
    have zv : ((Int.gcd n (Int.gcd a.2 b.2 : Nat) : Nat) : Int).natAbs < 2 ^ 4000 := sz_gcd z1 (by omega)
    have hv : (0 : Int) < (Int.gcd n (Int.gcd a.2 b.2 : Nat) : Nat) := by omega
    have dv : ((Int.gcd n (Int.gcd a.2 b.2 : Nat) : Nat) : Int) ∣ b.2 := Int.dvd_trans (Int.gcd_dvd_right _ _) (Int.gcd_dvd_right _ _)
    refine q_asg (d := .i (Int.gcd n (Int.gcd a.2 b.2 : Nat) : Nat)) (by walk_at "ev") ?_
    refine p_ret (p_frac (x := n / (Int.gcd n (Int.gcd a.2 b.2 : Nat) : Nat)) (y := (a.2 / (Int.gcd a.2 b.2 : Nat)) * (b.2 / (Int.gcd n (Int.gcd a.2 b.2 : Nat) : Nat))) ?_ ?_)
    · walk_at "ev"
      · exact divW hv zv (by decide)
      · exact divW hv zv (by decide)
      · exact mulW z2 (sz_div hb.sz.2 dv) (by decide)
    · subst hn
      rfl
theorem fok_times (Tp : Top K mg base) : FnOk P w K mg base CX0 1 Tp.f_times Tp.d_times ["a", "b"] (spP K (RPlus timesM)) := by
  refine Tp.F_times.ok sc_times (fun vs H Q E h => len_P (fun _ _ z => z.len) h) (fun cdv A outer s H vs Q E hr h => ?_)
  refine ⟨_, (pss_cons (ps_set (i := 2) sc_times.nd rfl (.inl rfl) (pe_callBfun cr_gcd (by rfl) Tp.n_gcd (pa_cons (pe_ix (r := rIxT K) ix_tup (pv 0) pe_int (fun _ _ => rfl)) (pa_cons (pe_ix (r := rIxT K) ix_tup (pv 1) pe_int (fun _ _ => rfl)) pa_nil))))
      (pss_cons (ps_set (i := 3) sc_times.nd rfl (.inl rfl) (pe_callBfun cr_gcd (by rfl) Tp.n_gcd (pa_cons (pe_ix (r := rIxT K) ix_tup (pv 1) pe_int (fun _ _ => rfl)) (pa_cons (pe_ix (r := rIxT K) ix_tup (pv 0) pe_int (fun _ _ => rfl)) pa_nil))))
      (pss_one (ps_ret (pe_tup (pa_cons (pe_op op_mulW (pe_op op_fdivW (pe_ix (r := rIxT K) ix_tup (pv 0) pe_int (fun _ _ => rfl)) (pv 2)) (pe_op op_fdivW (pe_ix (r := rIxT K) ix_tup (pv 1) pe_int (fun _ _ => rfl)) (pv 3))) (pa_cons (pe_op op_mulW (pe_op op_fdivW (pe_ix (r := rIxT K) ix_tup (pv 0) pe_int (fun _ _ => rfl)) (pv 3)) (pe_op op_fdivW (pe_ix (r := rIxT K) ix_tup (pv 1) pe_int (fun _ _ => rfl)) (pv 2))) pa_nil))))))), body_P ?_ h⟩
  refine fun ds d r I => ?_
  obtain ⟨a, b, rfl, ha, hb, rfl⟩ := r
  walk_at "norm"
  have pa := ha.nrm.1
  have pb := hb.nrm.1
  
  have f0 : Int.gcd a.1 b.2 ≠ 0 := Int.gcd_ne_zero_right (by omega)
  have s0 : Int.gcd b.1 a.2 ≠ 0 := Int.gcd_ne_zero_right (by omega)
  have hf : (0 : Int) < (Int.gcd a.1 b.2 : Nat) := by omega
  have hs : (0 : Int) < (Int.gcd b.1 a.2 : Nat) := by omega
  have z1 : ((Int.gcd a.1 b.2 : Nat) : Int).natAbs < 2 ^ 4000 := sz_gcd hb.sz.2 (by omega)
  have z2 : ((Int.gcd b.1 a.2 : Nat) : Int).natAbs < 2 ^ 4000 := sz_gcd ha.sz.2 (by omega)
  refine q_asg (d := .i (Int.gcd a.1 b.2 : Nat)) (by walk_at "ev") ?_
  refine q_asg (d := .i (Int.gcd b.1 a.2 : Nat)) (by walk_at "ev") ?_
  refine p_ret (p_frac (x := (a.1 / (Int.gcd a.1 b.2 : Nat)) * (b.1 / (Int.gcd b.1 a.2 : Nat))) (y := (a.2 / (Int.gcd b.1 a.2 : Nat)) * (b.2 / (Int.gcd a.1 b.2 : Nat))) ?_ rfl)
  walk_at "ev"
  · exact divW hf z1 (by decide)
  · exact divW hs z2 (by decide)
  · exact mulW (sz_div ha.sz.1 (Int.gcd_dvd_left _ _)) (sz_div hb.sz.1 (Int.gcd_dvd_left _ _)) (by decide)
  · exact divW hs z2 (by decide)
  · exact divW hf z1 (by decide)
  · exact mulW (sz_div ha.sz.2 (Int.gcd_dvd_right _ _)) (sz_div hb.sz.2 (Int.gcd_dvd_right _ _)) (by decide)
theorem fok_compare (Tp : Top K mg base) : FnOk P w K mg base CX0 1 Tp.f_compare Tp.d_compare ["a", "b"] (spP K RCmp) := by
  refine Tp.F_compare.ok sc_compare (fun vs H Q E h => len_P (fun _ _ z => by obtain ⟨_, _, e, _⟩ := z; rw [e]; rfl) h) (fun cdv A outer s H vs Q E hr h => ?_)
  refine ⟨_, (pss_cons (ps_set (i := 2) sc_compare.nd rfl (.inl rfl) (pe_op op_mulW (pe_ix (r := rIxT K) ix_tup (pv 0) pe_int (fun _ _ => rfl)) (pe_ix (r := rIxT K) ix_tup (pv 1) pe_int (fun _ _ => rfl))))
      (pss_cons (ps_set (i := 3) sc_compare.nd rfl (.inl rfl) (pe_op op_mulW (pe_ix (r := rIxT K) ix_tup (pv 1) pe_int (fun _ _ => rfl)) (pe_ix (r := rIxT K) ix_tup (pv 0) pe_int (fun _ _ => rfl))))
      (pss_cons (ps_if (pt_cmpR op_lt (pv 2) (pv 3) (nomark _)) (pss_one (ps_ret (pe_un un_neg pe_int))) pss_nil)
      (pss_cons (ps_if (pt_cmpR op_gt (pv 2) (pv 3) (nomark _)) (pss_one (ps_ret pe_int)) pss_nil)
      (pss_one (ps_ret pe_int)))))), body_P ?_ h⟩
  refine fun ds d r I => ?_
  obtain ⟨a, b, rfl, ha, hb, rfl⟩ := r
  walk_at "norm"
  refine q_asg (d := .i (a.1 * b.2)) (by walk_at "ev"; exact mulW ha.sz.1 hb.sz.2 (by decide)) ?_
  refine q_asg (d := .i (b.1 * a.2)) (by walk_at "ev"; exact mulW hb.sz.1 ha.sz.2 (by decide)) ?_
  unfold cmpM
  by_cases c : a.1 * b.2 < b.1 * a.2
  · rw [if_pos c]
    exact s_stop (q_ifT (p_test (p_lt (i := a.1 * b.2) (j := b.1 * a.2) (by walk_at "ev") (by walk_at "ev"))) (decide_eq_true c) (p_ret (by walk_at "ev")))
  · rw [if_neg c]
    refine q_skip (p_test (p_lt (i := a.1 * b.2) (j := b.1 * a.2) (by walk_at "ev") (by walk_at "ev"))) (decide_eq_false c) ?_
    by_cases c2 : b.1 * a.2 < a.1 * b.2
    · rw [if_pos c2]
      exact s_stop (q_ifT (p_test (p_gt (i := a.1 * b.2) (j := b.1 * a.2) (by walk_at "ev") (by walk_at "ev"))) (decide_eq_true c2) (p_ret (by walk_at "ev")))
    · rw [if_neg c2]
      exact q_skip (p_test (p_gt (i := a.1 * b.2) (j := b.1 * a.2) (by walk_at "ev") (by walk_at "ev"))) (decide_eq_false c2) (p_ret (by walk_at "ev"))
theorem fok_is_sized (Tp : Top K mg base) : FnOk P w K mg base CX0 1 Tp.f_is_sized Tp.d_is_sized ["size"] (spP K RSized) := by
  refine Tp.F_is_sized.ok sc_is_sized (fun vs H Q E h => len_P (fun _ _ z => by obtain ⟨_, _, e, _⟩ := z; rw [e]; rfl) h) (fun cdv A outer s H vs Q E hr h => ?_)
  refine ⟨_, (pss_one (ps_ret (pe_and (pe_cmpR op_gt (pe_ix (r := rIxT K) ix_tup (pe_ix (r := rIxT K) ix_tup (pv 0) pe_int (fun _ _ => rfl)) pe_int (fun _ _ => rfl)) pe_int (nomark _)) (pe_one (pe_cmpR op_gt (pe_ix (r := rIxT K) ix_tup (pe_ix (r := rIxT K) ix_tup (pv 0) pe_int (fun _ _ => rfl)) pe_int (fun _ _ => rfl)) pe_int (nomark _)))))), body_P ?_ h⟩
  refine fun ds d r I => ?_
  obtain ⟨a, b, rfl, rfl⟩ := r
  walk_at "norm"
  exact p_ret (e_andV (p_gt (i := a.1) (j := 0) (by walk_at "ev") (by walk_at "ev")) fun _ => p_gt (i := b.1) (j := 0) (by walk_at "ev") (by walk_at "ev"))
theorem fok_law_begin (Tp : Top K mg base) : FnOk P w K mg base CX0 1 Tp.f_law_begin Tp.d_law_begin ["script"] (spBegin K) := by
  refine Tp.F_law_begin.ok sc_law_begin (fun vs H Q E h => by obtain ⟨_, _, _, e, _⟩ := h; rw [e]; rfl) (fun cdv A outer s H vs Q E hr h => ?_)
  refine ⟨_, (pss_cons (ps_set (i := 1) sc_law_begin.nd rfl (.inl rfl) pe_int)
      (pss_cons (ps_for PassesOwn.never rfl (pi_list (pv 0)) (pg_name (i := 2) sc_law_begin.nd rfl (.inl rfl)) (pss_one (ps_set (i := 1) sc_law_begin.nd rfl (.inl rfl) (pe_op op_mod (pe_op op_add (pe_op op_add (pe_op op_mulW (pv 1) pe_int) (pe_op op_mod (pe_callTy call_int1 (by rfl) Tp.n_int (by decide +kernel) (pa_cons (pv 2) pa_nil)) pe_int)) pe_int) pe_int))))
      (pss_one (ps_ret (pe_lst (pa_cons (pe_callTy call_list_of (by rfl) Tp.n_list (by decide +kernel) (pa_cons (pv 0) pa_nil)) (pa_cons pe_int (pa_cons pe_int (pa_cons (pv 1) pa_nil))))))))), body_beg ?_ h⟩
  refine fun ns G0 H0 => ?_
  walk_at "norm"
  refine q_asg (d := .i 1) (by walk_at "ev") ?_
  refine s_seq (ρ1 := [some (.d (.list (ns.map PyData.int))), some (.i (seedAt ns ns.length)), none]) (J := .since NoA G0 H0) ?_ ?_
  · have z := s_forL (K := K) (ts := ?_) (tl := tVar 0) (I := .since NoA G0 H0) (ds := ns.map PyData.int) (j := 2) (fun i => [some (.d (.list (ns.map PyData.int))), some (.i (seedAt ns i)), none]) (fun _ => .since NoA G0 H0) (e_var rfl) rfl ?_
    · rw [List.length_map] at z
      exact z
    · intro i x hx
      rw [List.getElem?_map, Option.map_eq_some_iff] at hx
      obtain ⟨n, hn, rfl⟩ := hx
      have b := seed_ok ns i
      refine s_lessN (ρ' := [some (.d (.list (ns.map PyData.int))), some (.i (seedAt ns (i + 1))), some (.i n)]) ⟨.inr rfl, .inr rfl, .inl rfl, trivial⟩ ?_
      have e : seedAt ns (i + 1) = (seedAt ns i * 69621 + n % 2147483629 + 7) % 2147483647 := by
        show seedF (seedAt ns i) (ns.getD i 0) = _
        rw [List.getD_eq_getElem?_getD, hn]
        rfl
      rw [e]
      refine p_asg (d := .i ((seedAt ns i * 69621 + n % 2147483629 + 7) % 2147483647)) ?_
      walk_at "ev"
      · exact mulW (m := 32) (n := 32) (by omega) (by decide) (by decide)
      · decide
      · decide
  · exact s_retBeg (seed_ok ns _) (by walk_at "ev")
theorem fok_law_take (Tp : Top K mg base) : FnOk P w K mg base CX0 1 Tp.f_law_take Tp.d_law_take ["d", "many"] (spW K RTake) := by
  refine Tp.F_law_take.ok sc_law_take (fun vs H Q E h => len_W (fun _ _ _ _ ⟨_, e, _⟩ => by rw [e]; rfl) h) (fun cdv A outer s H vs Q E hr h => ?_)
  refine ⟨_, (pss_cons (ps_if (PW.pt (pw_and (pt_cmpR op_eq (pe_ix (r := rIxL K) ix_list (pv 0) pe_int (fun _ _ => rfl)) pe_int (nomark _)) (pw_and1 (pt_cmpR op_lt (pe_ix (r := rIxL K) ix_list (pv 0) pe_int (fun _ _ => rfl)) (pe_callB call_len_seq (by rfl) Tp.n_len (by decide +kernel) (pa_cons (pe_ix (r := rIxL K) ix_list (pv 0) pe_int (fun _ _ => rfl)) pa_nil)) (nomark _))))) (pss_cons (ps_asg (pe_callB call_abs (by rfl) Tp.n_abs (by decide +kernel) (pa_cons (pe_callTy call_int1 (by rfl) Tp.n_int (by decide +kernel) (pa_cons (pe_ix (r := rIxL K) ix_list (pe_ix (r := rIxL K) ix_list (pv 0) pe_int (fun _ _ => rfl)) (pe_ix (r := rIxL K) ix_list (pv 0) pe_int (fun _ _ => rfl)) (fun _ _ => rfl)) pa_nil)) pa_nil)) (pg_sub (pv 0) pe_int set_list))
      (pss_cons (ps_asg (pe_op op_add (pe_ix (r := rIxL K) ix_list (pv 0) pe_int (fun _ _ => rfl)) pe_int) (pg_sub (pv 0) pe_int set_list))
      (pss_one (ps_if (pt_cmpR op_lt (pe_ix (r := rIxL K) ix_list (pv 0) pe_int (fun _ _ => rfl)) (pe_op op_pow pe_int pe_int) (nomark _)) (pss_cons (ps_set (i := 2) sc_law_take.nd rfl (.inl rfl) (pe_callTy call_int1 (by rfl) Tp.n_int (by decide +kernel) (pa_cons (pe_ix (r := rIxL K) ix_list (pv 0) pe_int (fun _ _ => rfl)) pa_nil)))
      (pss_cons (ps_asg pe_int (pg_sub (pv 0) pe_int set_list))
      (pss_one (ps_ret (pe_op op_mod (pv 2) (pv 1)))))) pss_nil)))) pss_nil)
      (pss_cons (ps_if (pt_cmpR op_gt (pe_ix (r := rIxL K) ix_list (pv 0) pe_int (fun _ _ => rfl)) pe_int (nomark _)) (pss_cons (ps_set (i := 3) sc_law_take.nd rfl (.inl rfl) (pe_op op_mod (pe_callTy call_int1 (by rfl) Tp.n_int (by decide +kernel) (pa_cons (pe_ix (r := rIxL K) ix_list (pv 0) pe_int (fun _ _ => rfl)) pa_nil)) (pv 1)))
      (pss_cons (ps_asg (pe_op op_fdivW (pe_callTy call_int1 (by rfl) Tp.n_int (by decide +kernel) (pa_cons (pe_ix (r := rIxL K) ix_list (pv 0) pe_int (fun _ _ => rfl)) pa_nil)) (pv 1)) (pg_sub (pv 0) pe_int set_list))
      (pss_one (ps_ret (pv 3))))) pss_nil)
      (pss_cons (ps_asg (pe_op op_mod (pe_callTy call_int1 (by rfl) Tp.n_int (by decide +kernel) (pa_cons (pe_op op_add (pe_op op_mulW (pe_ix (r := rIxL K) ix_list (pv 0) pe_int (fun _ _ => rfl)) pe_int) pe_int) pa_nil)) pe_int) (pg_sub (pv 0) pe_int set_list))
      (pss_one (ps_ret (pe_op op_mod (pe_callTy call_int1 (by rfl) Tp.n_int (by decide +kernel) (pa_cons (pe_op op_fdivW (pe_ix (r := rIxL K) ix_list (pv 0) pe_int (fun _ _ => rfl)) pe_int) pa_nil)) (pv 1))))))), body_W ?_ h⟩
  refine fun ds C d C' r p J hf => ?_
  obtain ⟨m, rfl, ok, hm, hz, rfl, rfl⟩ := r
  walk_at "norm"
  have dm : ∀ i : Int, CDivW i m := fun i => divW hm hz (by decide)
  by_cases c1 : C.rest = 0 ∧ C.pos < C.ns.length
  · have e1 : (C.ns.map PyData.int)[C.pos]? = some (.int (C.ns.getD C.pos 0)) := by
      rw [List.getElem?_map, List.getElem?_eq_getElem c1.2, List.getD_eq_getElem?_getD, List.getElem?_eq_getElem c1.2]
      rfl
    generalize hx : ((C.ns.getD C.pos 0).natAbs : Int) = x
    have hx0 : 0 ≤ x := by omega
    by_cases c2 : x < 10 ^ 18
    · have e : take C m = (x % m, { C with pos := C.pos + 1, rest := 0 }) := by
        unfold take
        rw [if_pos c1, hx, if_pos c2]
      rw [e]
      refine s_stop (s_ifT (t_andT (t_is (p_test (p_eqI (i := C.rest) (j := 0) (d_ix2 (e_var rfl)) e_int)) (decide_eq_true c1.1)) (t_is (p_test (p_lt (i := (C.pos : Nat)) (j := ((C.ns.map PyData.int).length : Nat)) (d_ix1 (e_var rfl)) (p_len (p_cons (d_ix0 (e_var rfl)) a_nil)))) (decide_eq_true (by rw [List.length_map]; omega)))) ?_)
      refine s_seq (d_set2 (x := x) (e_is (p_abs (i := C.ns.getD C.pos 0) (p_cons (p_int1 (p_cons (e_ixL (j := C.pos) (d_ix0 (e_var rfl)) (d_ix1 (e_var rfl)) e1) a_nil)) a_nil)) (by rw [hx])) (e_var rfl) hf) ?_
      refine s_seq (d_set1 (n := C.pos + 1) (x := (C.pos : Int) + 1) (by walk_at "ev") rfl (e_var rfl) hf) ?_
      refine q_ifT (p_test (p_lt (i := x) (j := 10 ^ (18 : Int).toNat) (d_ix2 (e_var rfl)) (p_pow e_int e_int ⟨by decide, by decide, by decide⟩))) (decide_eq_true c2) ?_
      refine q_asg (d := .i x) (p_int1 (p_cons (d_ix2 (e_var rfl)) a_nil)) ?_
      refine s_seq (d_set2 (x := 0) e_int (e_var rfl) hf) ?_
      refine p_ret ?_
      walk_at "ev"
      exact hm
    · have e : take C m = take1 { C with pos := C.pos + 1, rest := x } m := by
        unfold take
        rw [if_pos c1, hx, if_neg c2]
      rw [e]
      have xp : 0 < x := by
        have : (0 : Int) < 10 ^ 18 := by decide
        omega
      refine s_seq (ρ1 := [some (.r p), some (.i m), none, none]) (J := dJ K p { C with pos := C.pos + 1, rest := x } J) (s_ifT (t_andT (t_is (p_test (p_eqI (i := C.rest) (j := 0) (d_ix2 (e_var rfl)) e_int)) (decide_eq_true c1.1)) (t_is (p_test (p_lt (i := (C.pos : Nat)) (j := ((C.ns.map PyData.int).length : Nat)) (d_ix1 (e_var rfl)) (p_len (p_cons (d_ix0 (e_var rfl)) a_nil)))) (decide_eq_true (by rw [List.length_map]; omega)))) ?_) ?_
      · refine s_seq (d_set2 (x := x) (e_is (p_abs (i := C.ns.getD C.pos 0) (p_cons (p_int1 (p_cons (e_ixL (j := C.pos) (d_ix0 (e_var rfl)) (d_ix1 (e_var rfl)) e1) a_nil)) a_nil)) (by rw [hx])) (e_var rfl) hf) ?_
        refine s_seq (d_set1 (n := C.pos + 1) (x := (C.pos : Int) + 1) (by walk_at "ev") rfl (e_var rfl) hf) ?_
        exact q_ifF (p_test (p_lt (i := x) (j := 10 ^ (18 : Int).toNat) (d_ix2 (e_var rfl)) (p_pow e_int e_int ⟨by decide, by decide, by decide⟩))) (decide_eq_false c2) s_next
      · have e2 : take1 { C with pos := C.pos + 1, rest := x } m = (x % m, { C with pos := C.pos + 1, rest := x / m }) := by
          unfold take1
          exact if_pos xp
        rw [e2]
        refine s_stop (q_ifT (p_test (p_gt (i := x) (j := 0) (d_ix2 (e_var rfl)) e_int)) (decide_eq_true xp) ?_)
        refine q_asg (d := .i (x % m)) (p_mod (p_int1 (p_cons (d_ix2 (e_var rfl)) a_nil)) (e_var rfl) hm) ?_
        refine s_seq (d_set2 (x := x / m) (p_div (p_int1 (p_cons (d_ix2 (e_var rfl)) a_nil)) (e_var rfl) (dm x)) (e_var rfl) hf) ?_
        exact p_ret (e_var rfl)
  · have e : take C m = take1 C m := by
      unfold take
      rw [if_neg c1]
    rw [e]
    refine s_seq (ρ1 := [some (.r p), some (.i m), none, none]) (J := dJ K p C J) (s_ifF (J := dJ K p C J) ?_ s_next) ?_
    · by_cases c3 : C.rest = 0
      · exact t_andT (t_is (p_test (p_eqI (i := C.rest) (j := 0) (d_ix2 (e_var rfl)) e_int)) (decide_eq_true c3)) (t_is (p_test (p_lt (i := (C.pos : Nat)) (j := ((C.ns.map PyData.int).length : Nat)) (d_ix1 (e_var rfl)) (p_len (p_cons (d_ix0 (e_var rfl)) a_nil)))) (decide_eq_false (by rw [List.length_map]; omega)))
      · exact t_andF (t_is (p_test (p_eqI (i := C.rest) (j := 0) (d_ix2 (e_var rfl)) e_int)) (decide_eq_false c3))
    by_cases c4 : 0 < C.rest
    · have e2 : take1 C m = (C.rest % m, { C with rest := C.rest / m }) := by
        unfold take1
        exact if_pos c4
      rw [e2]
      refine s_stop (q_ifT (p_test (p_gt (i := C.rest) (j := 0) (d_ix2 (e_var rfl)) e_int)) (decide_eq_true c4) ?_)
      refine q_asg (d := .i (C.rest % m)) (p_mod (p_int1 (p_cons (d_ix2 (e_var rfl)) a_nil)) (e_var rfl) hm) ?_
      refine s_seq (d_set2 (x := C.rest / m) (p_div (p_int1 (p_cons (d_ix2 (e_var rfl)) a_nil)) (e_var rfl) (dm _)) (e_var rfl) hf) ?_
      exact p_ret (e_var rfl)
    · have e2 : take1 C m = (((C.seed * 48271 + 11) % 2147483647 / 3) % m, { C with seed := (C.seed * 48271 + 11) % 2147483647 }) := by
        unfold take1
        exact if_neg c4
      rw [e2]
      have b := ok.s
      refine q_skip (p_test (p_gt (i := C.rest) (j := 0) (d_ix2 (e_var rfl)) e_int)) (decide_eq_false c4) ?_
      refine s_seq (d_set3 (x := (C.seed * 48271 + 11) % 2147483647) (p_mod (p_int1 (p_cons (p_add (p_mul (d_ix3 (e_var rfl)) e_int (mulW (m := 32) (n := 32) (by omega) (by decide) (by decide))) e_int) a_nil)) e_int (by decide)) (e_var rfl) hf) ?_
      exact p_ret (p_mod (p_int1 (p_cons (p_div (d_ix3 (e_var rfl)) e_int (divW (n := 2) (by decide) (by decide) (by decide))) a_nil)) (e_var rfl) hm)
theorem fok_law_gcd (Tp : Top K mg base) : FnOk P w K mg base CX0 1 Tp.f_law_gcd Tp.d_law_gcd ["a", "b"] (spP K RGcd) := by
  refine Tp.F_law_gcd.ok sc_law_gcd (fun vs H Q E h => len_P (fun _ _ ⟨_, _, e, _⟩ => by rw [e]; rfl) h) (fun cdv A outer s H vs Q E hr h => ?_)
  refine ⟨_, (pss_cons (ps_while PassesOwn.never (pt_cmpR op_ne (pv 1) pe_int (nomark _)) (pss_one (ps_par (i := 0) (j := 1) rfl sc_law_gcd.nd rfl rfl (by decide) rfl rfl (pa_cons (pv 1) (pa_cons (pe_op op_mod (pe_callTy call_int1 (by rfl) Tp.n_int (by decide +kernel) (pa_cons (pv 0) pa_nil)) (pv 1)) pa_nil)) (by rfl))))
      (pss_one (ps_ret (pe_callB call_abs (by rfl) Tp.n_abs (by decide +kernel) (pa_cons (pv 0) pa_nil))))), body_P ?_ h⟩
  refine fun ds d r I => ?_
  obtain ⟨x, y, rfl, hx, hy, rfl⟩ := r
  walk_at "norm"
  refine s_seq (ρ1 := [some (.i (Int.gcd x y : Nat)), some (.i 0)]) (J := I) ?_ ?_
  · refine s_while (α := Int × Int) (fun s => Int.gcd s.1 s.2 = Int.gcd x y ∧ 0 ≤ s.1 ∧ 0 ≤ s.2) (fun s => [some (.i s.1), some (.i s.2)]) (fun _ => I) (fun s => s.2.natAbs) (x, y) ⟨rfl, hx, hy⟩ fun s iv => ?_
    obtain ⟨h1, h2, h3⟩ := iv
    by_cases h : s.2 = 0
    · refine .inr ⟨t_is (t_test (p_neI (i := s.2) (j := 0) (by walk_at "ev") (by walk_at "ev"))) (by rw [h]; rfl), ?_⟩
      rw [h, Int.gcd_zero_right] at h1
      have e : s.1 = (Int.gcd x y : Nat) := by rw [← h1]; omega
      rw [h, e]
    · refine .inl ⟨t_is (t_test (p_neI (i := s.2) (j := 0) (by walk_at "ev") (by walk_at "ev"))) (by rw [decide_eq_false h]; rfl), .inl ⟨(s.2, s.1 % s.2), ⟨(gcd_step s.1 s.2).trans h1, h3, Int.emod_nonneg _ h⟩, ?_, ?_⟩⟩
      · have q := Int.emod_lt_of_pos s.1 (show 0 < s.2 by omega)
        have q2 := Int.emod_nonneg s.1 h
        show (s.1 % s.2).natAbs < s.2.natAbs
        omega
      · refine p_par (d := .i s.2) (e := .i (s.1 % s.2)) ?_
        walk_at "ev"
        omega
  · refine p_ret (e_is (p_abs (i := (Int.gcd x y : Nat)) (by walk_at "ev")) ?_)
    rw [Int.natAbs_natCast]
theorem fok_law_less (Tp : Top K mg base) : FnOk P w K mg base CX0 1 Tp.f_law_less Tp.d_law_less ["a", "b"] (spP K RLess) := by
  refine Tp.F_law_less.ok sc_law_less (fun vs H Q E h => len_P (fun _ _ z => by obtain ⟨_, _, e, _⟩ := z; rw [e]; rfl) h) (fun cdv A outer s H vs Q E hr h => ?_)
  refine ⟨_, (pss_one (ps_ret (pe_cmpR op_lt (pe_op op_mulW (pe_ix (r := rIxT K) ix_tup (pv 0) pe_int (fun _ _ => rfl)) (pe_ix (r := rIxT K) ix_tup (pv 1) pe_int (fun _ _ => rfl))) (pe_op op_mulW (pe_ix (r := rIxT K) ix_tup (pv 1) pe_int (fun _ _ => rfl)) (pe_ix (r := rIxT K) ix_tup (pv 0) pe_int (fun _ _ => rfl))) (nomark _)))), body_P ?_ h⟩
  refine fun ds d r I => ?_
  obtain ⟨a, b, rfl, ha, hb, rfl⟩ := r
  walk_at "norm"
  refine p_ret (p_lt (i := a.1 * b.2) (j := b.1 * a.2) ?_ ?_)
  · walk_at "ev"
    exact mulW ha.sz.1 hb.sz.2 (by decide)
  · walk_at "ev"
    exact mulW hb.sz.1 ha.sz.2 (by decide)
theorem fok_minus (Tp : Top K mg base) : FnOk P w K mg base CX0 2 Tp.f_minus Tp.d_minus ["a", "b"] (spP K (RPlus minusM)) := by
  have G_plus := fok_plus (P := P) (w := w) (base := base) Tp
  refine Tp.F_minus.ok sc_minus (fun vs H Q E h => len_P (fun _ _ z => z.len) h) (fun cdv A outer s H vs Q E hr h => ?_)
  refine ⟨_, (pss_one (ps_ret (pe_call G_plus (hr.mono (by decide)) (by rfl) Tp.g_plus Tp.F_plus.kp Tp.b_plus .nil pass0 (pa_cons (pv 0) (pa_cons (pe_tup (pa_cons (pe_un un_neg (pe_ix (r := rIxT K) ix_tup (pv 1) pe_int (fun _ _ => rfl))) (pa_cons (pe_ix (r := rIxT K) ix_tup (pv 1) pe_int (fun _ _ => rfl)) pa_nil))) pa_nil))))), body_P ?_ h⟩
  refine fun ds d r I => ?_
  obtain ⟨a, b, rfl, ha, hb, rfl⟩ := r
  walk_at "norm"
  have pa := ha.nrm.1
  have pb := hb.nrm.1
  
  refine p_ret (p_call (p_cons ?_ (p_cons (p_frac (x := -b.1) (y := b.2) ?_ rfl) a_nil)) ⟨a, (-b.1, b.2), rfl, ha, ok_neg hb, rfl⟩)
  · walk_at "ev"
  · walk_at "ev"
theorem fok_over (Tp : Top K mg base) : FnOk P w K mg base (L2.CX P w) 2 Tp.f_over Tp.d_over ["a", "b"] (spX K (ROver Tp.c_ZeroDenominator)) := by
  have G_times := fok_times (P := P) (w := w) (base := base) Tp
  refine Tp.F_over.okX sc_over (fun vs H Q E h => len_X (fun _ _ ⟨_, _, e, _⟩ => by rw [e]; rfl) h) (fun cdv A outer s H vs Q E hr h => ?_)
  refine ⟨_, (pss_cons (ps_if (pt_cmpR op_eq (pe_ix (r := rIxT K) ix_tup (pv 1) pe_int (fun _ _ => rfl)) pe_int (nomark _)) (pss_one (ps_raise rfl (takes_of rfl rfl rfl rfl) (pmk_own PySem.F.excBase_ValueError Tp.xc_ZeroDenominator Tp.gc_ZeroDenominator Tp.kc_ZeroDenominator (raises_own Tp.bc_ZeroDenominator Tp.tc_ZeroDenominator) rfl))) pss_nil)
      (pss_cons (ps_if (pt_cmpR op_lt (pe_ix (r := rIxT K) ix_tup (pv 1) pe_int (fun _ _ => rfl)) pe_int (nomark _)) (pss_one (ps_ret (pe_call G_times (hr.mono (by decide)) (by rfl) Tp.g_times Tp.F_times.kp Tp.b_times .nil pass0 (pa_cons (pv 0) (pa_cons (pe_tup (pa_cons (pe_un un_neg (pe_ix (r := rIxT K) ix_tup (pv 1) pe_int (fun _ _ => rfl))) (pa_cons (pe_un un_neg (pe_ix (r := rIxT K) ix_tup (pv 1) pe_int (fun _ _ => rfl))) pa_nil))) pa_nil))))) pss_nil)
      (pss_one (ps_ret (pe_call G_times (hr.mono (by decide)) (by rfl) Tp.g_times Tp.F_times.kp Tp.b_times .nil pass0 (pa_cons (pv 0) (pa_cons (pe_tup (pa_cons (pe_ix (r := rIxT K) ix_tup (pv 1) pe_int (fun _ _ => rfl)) (pa_cons (pe_ix (r := rIxT K) ix_tup (pv 1) pe_int (fun _ _ => rfl)) pa_nil))) pa_nil))))))), body_X ?_ h⟩
  refine fun ds r hr I hx => ?_
  obtain ⟨a, b, rfl, ha, hb, hr⟩ := hr
  walk_at "norm"
  rcases hr with ⟨h0, rfl⟩ | ⟨h0, rfl⟩
  · refine q_skip (p_test (p_eqI (i := b.1) (j := 0) (by walk_at "ev") (by walk_at "ev"))) (decide_eq_false h0) ?_
    by_cases c : b.1 < 0
    · refine s_stop (q_ifT (p_test (p_lt (i := b.1) (j := 0) (by walk_at "ev") (by walk_at "ev"))) (decide_eq_true c) ?_)
      refine p_ret (p_call (R := RPlus timesM) (ds := [.d (fr a), .d (fr (invM b))]) (p_cons (by walk_at "ev") (p_cons (p_frac (x := -b.2) (y := -b.1) (by walk_at "ev") (by unfold invM; exact if_pos c)) a_nil)) (RPlus.mk ha (ok_inv hb h0)))
    · refine q_skip (p_test (p_lt (i := b.1) (j := 0) (by walk_at "ev") (by walk_at "ev"))) (decide_eq_false c) ?_
      refine p_ret (p_call (R := RPlus timesM) (ds := [.d (fr a), .d (fr (invM b))]) (p_cons (by walk_at "ev") (p_cons (p_frac (x := b.2) (y := b.1) (by walk_at "ev") (by unfold invM; exact if_neg c)) a_nil)) (RPlus.mk ha (ok_inv hb h0)))
  · exact s_err (q_ifT (p_test (p_eqI (i := b.1) (j := 0) (by walk_at "ev") (by walk_at "ev"))) (decide_eq_true h0) (s_raise' fun G H σ D gh io => hx _ rfl G H io))
theorem fok_least (Tp : Top K mg base) : FnOk P w K mg base CX0 2 Tp.f_least Tp.d_least ["items"] (spP K (RBest less)) := by
  have G_compare := fok_compare (P := P) (w := w) (base := base) Tp
  refine Tp.F_least.ok sc_least (fun vs H Q E h => len_P (fun _ _ ⟨_, _, e, _⟩ => by rw [e]; rfl) h) (fun cdv A outer s H vs Q E hr h => ?_)
  refine ⟨_, (pss_cons (ps_set (i := 1) sc_least.nd rfl (.inl rfl) (pe_ix (r := rIxT K) ix_tup (pv 0) pe_int (fun _ _ => rfl)))
      (pss_cons (ps_for PassesOwn.never rfl (pi_tup (pv 0)) (pg_name (i := 2) sc_least.nd rfl (.inl rfl)) (pss_one (ps_if (pt_cmpR op_lt (pe_call G_compare (hr.mono (by decide)) (by rfl) Tp.g_compare Tp.F_compare.kp Tp.b_compare .nil pass0 (pa_cons (pv 2) (pa_cons (pv 1) pa_nil))) pe_int (nomark _)) (pss_one (ps_set (i := 1) sc_least.nd rfl (.inl rfl) (pv 2))) pss_nil)))
      (pss_one (ps_ret (pv 1))))), body_P ?_ h⟩
  refine fun ds d r I => ?_
  obtain ⟨x, xs, rfl, hx, rfl⟩ := r
  walk_at "norm"
  refine q_asg (d := .d (fr x)) (by walk_at "ev") ?_
  have hall : ∀ y ∈ x :: xs, PL.Ok 4000 y := hx
  refine s_seq (s_forT (ds := fr x :: xs.map fr) (j := 2) (fun i => [some (.t (fr x :: xs.map fr)), some (.d (fr (bestL less x ((x :: xs).take i)))), none]) (fun _ => I) (e_var rfl) rfl ?_) (p_ret (e_is (e_var rfl) ?_))
  rotate_left
  · rw [List.take_of_length_le (by simp)]
  · intro i y hy
    have hy' : ((x :: xs).map fr)[i]? = some y := hy
    rw [List.getElem?_map, Option.map_eq_some_iff] at hy'
    obtain ⟨w, hw, rfl⟩ := hy'
    obtain ⟨hi, ew⟩ := List.getElem?_eq_some_iff.mp hw
    have ok1 : PL.Ok 4000 w := hall w (by rw [← ew]; exact List.getElem_mem hi)
    have ok2 : PL.Ok 4000 (bestL less x ((x :: xs).take i)) := by
      rcases bestL_mem less ((x :: xs).take i) x with e | e
      · rw [e]; exact hall x List.mem_cons_self
      · exact hall _ (List.mem_of_mem_take e)
    refine s_lessN (ρ' := [some (.t (fr x :: xs.map fr)), some (.d (fr (bestL less x ((x :: xs).take (i + 1))))), some (.d (fr w))]) ⟨.inr rfl, .inr rfl, .inl rfl, trivial⟩ ?_
    rw [List.take_add_one, hw, show (some w).toList = [w] from rfl, bestL_snoc]
    generalize bestL less x ((x :: xs).take i) = b at *
    have ec : less w b = decide (cmpM w b < 0) := less_cmp w b
    by_cases c : less w b = true
    · rw [if_pos c]
      exact q_ifT (p_test (p_lt (i := cmpM w b) (j := 0) (p_call (R := RCmp) (ds := [.d (fr w), .d (fr b)]) (by walk_at "ev") ⟨_, _, rfl, ok1, ok2, rfl⟩) (by walk_at "ev"))) (by rw [← ec]; exact c) (p_asg (by walk_at "ev"))
    · rw [if_neg c]
      refine q_ifF (p_test (p_lt (i := cmpM w b) (j := 0) (p_call (R := RCmp) (ds := [.d (fr w), .d (fr b)]) (by walk_at "ev") ⟨_, _, rfl, ok1, ok2, rfl⟩) (by walk_at "ev"))) (by rw [← ec]; exact Bool.eq_false_iff.mpr c) s_next
theorem fok_greatest (Tp : Top K mg base) : FnOk P w K mg base CX0 2 Tp.f_greatest Tp.d_greatest ["items"] (spP K (RBest more)) := by
  have G_compare := fok_compare (P := P) (w := w) (base := base) Tp
  refine Tp.F_greatest.ok sc_greatest (fun vs H Q E h => len_P (fun _ _ ⟨_, _, e, _⟩ => by rw [e]; rfl) h) (fun cdv A outer s H vs Q E hr h => ?_)
  refine ⟨_, (pss_cons (ps_set (i := 1) sc_greatest.nd rfl (.inl rfl) (pe_ix (r := rIxT K) ix_tup (pv 0) pe_int (fun _ _ => rfl)))
      (pss_cons (ps_for PassesOwn.never rfl (pi_tup (pv 0)) (pg_name (i := 2) sc_greatest.nd rfl (.inl rfl)) (pss_one (ps_if (pt_cmpR op_gt (pe_call G_compare (hr.mono (by decide)) (by rfl) Tp.g_compare Tp.F_compare.kp Tp.b_compare .nil pass0 (pa_cons (pv 2) (pa_cons (pv 1) pa_nil))) pe_int (nomark _)) (pss_one (ps_set (i := 1) sc_greatest.nd rfl (.inl rfl) (pv 2))) pss_nil)))
      (pss_one (ps_ret (pv 1))))), body_P ?_ h⟩
  refine fun ds d r I => ?_
  obtain ⟨x, xs, rfl, hx, rfl⟩ := r
  walk_at "norm"
  refine q_asg (d := .d (fr x)) (by walk_at "ev") ?_
  have hall : ∀ y ∈ x :: xs, PL.Ok 4000 y := hx
  refine s_seq (s_forT (ds := fr x :: xs.map fr) (j := 2) (fun i => [some (.t (fr x :: xs.map fr)), some (.d (fr (bestL more x ((x :: xs).take i)))), none]) (fun _ => I) (e_var rfl) rfl ?_) (p_ret (e_is (e_var rfl) ?_))
  rotate_left
  · rw [List.take_of_length_le (by simp)]
  · intro i y hy
    have hy' : ((x :: xs).map fr)[i]? = some y := hy
    rw [List.getElem?_map, Option.map_eq_some_iff] at hy'
    obtain ⟨w, hw, rfl⟩ := hy'
    obtain ⟨hi, ew⟩ := List.getElem?_eq_some_iff.mp hw
    have ok1 : PL.Ok 4000 w := hall w (by rw [← ew]; exact List.getElem_mem hi)
    have ok2 : PL.Ok 4000 (bestL more x ((x :: xs).take i)) := by
      rcases bestL_mem more ((x :: xs).take i) x with e | e
      · rw [e]; exact hall x List.mem_cons_self
      · exact hall _ (List.mem_of_mem_take e)
    refine s_lessN (ρ' := [some (.t (fr x :: xs.map fr)), some (.d (fr (bestL more x ((x :: xs).take (i + 1))))), some (.d (fr w))]) ⟨.inr rfl, .inr rfl, .inl rfl, trivial⟩ ?_
    rw [List.take_add_one, hw, show (some w).toList = [w] from rfl, bestL_snoc]
    generalize bestL more x ((x :: xs).take i) = b at *
    have ec : more w b = decide (0 < cmpM w b) := more_cmp w b
    by_cases c : more w b = true
    · rw [if_pos c]
      exact q_ifT (p_test (p_gt (i := cmpM w b) (j := 0) (p_call (R := RCmp) (ds := [.d (fr w), .d (fr b)]) (by walk_at "ev") ⟨_, _, rfl, ok1, ok2, rfl⟩) (by walk_at "ev"))) (by rw [← ec]; exact c) (p_asg (by walk_at "ev"))
    · rw [if_neg c]
      refine q_ifF (p_test (p_gt (i := cmpM w b) (j := 0) (p_call (R := RCmp) (ds := [.d (fr w), .d (fr b)]) (by walk_at "ev") ⟨_, _, rfl, ok1, ok2, rfl⟩) (by walk_at "ev"))) (by rw [← ec]; exact Bool.eq_false_iff.mpr c) s_next
theorem fok_check_box (Tp : Top K mg base) : FnOk P w K mg base (L2.CX P w) 2 Tp.f_check_box Tp.d_check_box ["box"] (spX K (RCheck Tp.c_BoxError)) := by
  have G_is_sized := fok_is_sized (P := P) (w := w) (base := base) Tp
  refine Tp.F_check_box.okX sc_check_box (fun vs H Q E h => len_X (fun _ _ ⟨_, e, _⟩ => by rw [e]; rfl) h) (fun cdv A outer s H vs Q E hr h => ?_)
  refine ⟨_, (pss_one (ps_if (pt_not (pt_val (pe_call G_is_sized (hr.mono (by decide)) (by rfl) Tp.g_is_sized Tp.F_is_sized.kp Tp.b_is_sized .nil pass0 (pa_cons (pe_ix (r := rIxT K) ix_tup (pv 0) pe_int (fun _ _ => rfl)) pa_nil)))) (pss_one (ps_raise rfl (takes_of rfl rfl rfl rfl) (pmk_own PySem.F.excBase_ValueError Tp.xc_BoxError Tp.gc_BoxError Tp.kc_BoxError (raises_own Tp.bc_BoxError Tp.tc_BoxError) rfl))) pss_nil)), body_XN ?_ h⟩
  refine fun ds r hr I hx => ?_
  obtain ⟨b, rfl, hr⟩ := hr
  walk_at "norm"
  rcases hr with ⟨h0, rfl⟩ | ⟨h0, rfl⟩
  · exact .inl ⟨rfl, _, q_ifF (t_not (t_B (p_call (R := RSized) (ds := [.t [fr b.s0, fr b.s1]]) (by walk_at "ev") ⟨_, _, rfl, rfl⟩))) (show (!b.sized) = false by rw [h0]; rfl) s_next⟩
  · exact .inr ⟨_, rfl, fun k => q_ifT (t_not (t_B (p_call (R := RSized) (ds := [.t [fr b.s0, fr b.s1]]) (by walk_at "ev") ⟨_, _, rfl, rfl⟩))) (show (!b.sized) = true by rw [h0]; rfl) (s_raise' fun G H σ D gh io => hx _ rfl G H io)⟩
theorem fok_ends_of (Tp : Top K mg base) : FnOk P w K mg base CX0 2 Tp.f_ends_of Tp.d_ends_of ["box"] (spP K REnds) := by
  have G_plus := fok_plus (P := P) (w := w) (base := base) Tp
  refine Tp.F_ends_of.ok sc_ends_of (fun vs H Q E h => len_P (fun _ _ z => by obtain ⟨_, e, _⟩ := z; rw [e]; rfl) h) (fun cdv A outer s H vs Q E hr h => ?_)
  refine ⟨_, (pss_cons (ps_asg (pv 0) (pg_tup rfl (pgs_cons (pg_tup rfl (pgs_cons (pg_name (i := 1) sc_ends_of.nd rfl (.inl rfl)) (pgs_cons (pg_name (i := 2) sc_ends_of.nd rfl (.inl rfl)) pgs_nil))) (pgs_cons (pg_tup rfl (pgs_cons (pg_name (i := 3) sc_ends_of.nd rfl (.inl rfl)) (pgs_cons (pg_name (i := 4) sc_ends_of.nd rfl (.inl rfl)) pgs_nil))) pgs_nil))))
      (pss_one (ps_ret (pe_tup (pa_cons (pe_tup (pa_cons (pv 1) (pa_cons (pe_call G_plus (hr.mono (by decide)) (by rfl) Tp.g_plus Tp.F_plus.kp Tp.b_plus .nil pass0 (pa_cons (pv 1) (pa_cons (pv 3) pa_nil))) pa_nil))) (pa_cons (pe_tup (pa_cons (pv 2) (pa_cons (pe_call G_plus (hr.mono (by decide)) (by rfl) Tp.g_plus Tp.F_plus.kp Tp.b_plus .nil pass0 (pa_cons (pv 2) (pa_cons (pv 4) pa_nil))) pa_nil))) pa_nil)))))), body_P ?_ h⟩
  refine fun ds d r I => ?_
  obtain ⟨b, rfl, h1, h2, h3, h4, rfl⟩ := r
  walk_at "norm"
  refine s_seq (s_asgG (e_var rfl) (g_tup rfl (g_cons (g_tup rfl (g_cons g_name (g_cons g_name g_nil))) (g_cons (g_tup rfl (g_cons g_name (g_cons g_name g_nil))) g_nil)))) ?_
  refine p_ret (p_tup2 (p_cons (p_tup2 (p_cons (by walk_at "ev") (p_cons (p_call (R := RPlus plusM) (ds := [.d (fr b.p0), .d (fr b.s0)]) (by walk_at "ev") (RPlus.mk h1 h3)) a_nil))) (p_cons (p_tup2 (p_cons (by walk_at "ev") (p_cons (p_call (R := RPlus plusM) (ds := [.d (fr b.p1), .d (fr b.s1)]) (by walk_at "ev") (RPlus.mk h2 h4)) a_nil))) a_nil)))
theorem fok_law_signed (Tp : Top K mg base) : FnOk P w K mg base CX0 2 Tp.f_law_signed Tp.d_law_signed ["d", "most"] (spW K RSigned) := by
  have G_law_take := fok_law_take (P := P) (w := w) (base := base) Tp
  refine Tp.F_law_signed.ok sc_law_signed (fun vs H Q E h => len_W (fun _ _ _ _ ⟨_, e, _⟩ => by rw [e]; rfl) h) (fun cdv A outer s H vs Q E hr h => ?_)
  refine ⟨_, (pss_one (ps_ret (pe_op op_sub (pe_call G_law_take (hr.mono (by decide)) (by rfl) Tp.g_law_take Tp.F_law_take.kp Tp.b_law_take .nil pass0 (pa_cons (pv 0) (pa_cons (pe_op op_add (pe_op op_mulW pe_int (pv 1)) pe_int) pa_nil))) (pv 1)))), body_W ?_ h⟩
  refine fun ds C d C' r p J hf => ?_
  obtain ⟨m, rfl, ok, hm, hz, rfl, rfl⟩ := r
  walk_at "norm"
  refine s_ret (e_sub (e_draw (R := RTake) (ds := [.i (2 * m + 1)]) (C := C) (p_cons (e_var rfl) (p_cons (p_add (p_mul e_int (e_var rfl) (mulW (m := 2) (n := 8000) (by decide) hz (by decide))) e_int) a_nil)) ⟨_, rfl, ok, by omega, ?_, rfl, rfl⟩ hf) (e_var rfl))
  exact sz_le (n := 8500) (sz_add (m := 8002) (sz_mul (m := 2) (n := 8000) (by decide) hz) (Nat.lt_of_lt_of_le (show (1 : Int).natAbs < 2 ^ 1 by decide) (Nat.pow_le_pow_right (by decide) (by decide)))) (by decide)
theorem fok_law_f (Tp : Top K mg base) : FnOk P w K mg base CX0 2 Tp.f_law_f Tp.d_law_f ["a", "b"] (spP K RF) := by
  have G_law_gcd := fok_law_gcd (P := P) (w := w) (base := base) Tp
  refine Tp.F_law_f.ok sc_law_f (fun vs H Q E h => len_P (fun _ _ ⟨_, _, e, _⟩ => by rw [e]; rfl) h) (fun cdv A outer s H vs Q E hr h => ?_)
  refine ⟨_, (pss_cons (ps_if (pt_cmpR op_lt (pv 1) pe_int (nomark _)) (pss_cons (ps_set (i := 0) sc_law_f.nd rfl (.inl rfl) (pe_op op_sub pe_int (pv 0)))
      (pss_one (ps_set (i := 1) sc_law_f.nd rfl (.inl rfl) (pe_op op_sub pe_int (pv 1))))) pss_nil)
      (pss_cons (ps_set (i := 2) sc_law_f.nd rfl (.inl rfl) (pe_call G_law_gcd (hr.mono (by decide)) (by rfl) Tp.g_law_gcd Tp.F_law_gcd.kp Tp.b_law_gcd .nil pass0 (pa_cons (pe_callB call_abs (by rfl) Tp.n_abs (by decide +kernel) (pa_cons (pv 0) pa_nil)) (pa_cons (pv 1) pa_nil))))
      (pss_one (ps_ret (pe_tup (pa_cons (pe_op op_fdivW (pv 0) (pv 2)) (pa_cons (pe_op op_fdivW (pv 1) (pv 2)) pa_nil))))))), body_P ?_ h⟩
  refine fun ds d r I => ?_
  obtain ⟨x, y, rfl, h0, hx, hy, rfl⟩ := r
  walk_at "norm"
  refine s_seq (ρ1 := [some (.i (if y < 0 then 0 - x else x)), some (.i (if y < 0 then 0 - y else y)), none]) (J := I) ?_ ?_
  · by_cases h : y < 0
    · rw [if_pos h, if_pos h]
      exact q_ifT (p_test (p_lt (i := y) (j := 0) (by walk_at "ev") (by walk_at "ev"))) (decide_eq_true h) (q_asg (d := .i (0 - x)) (by walk_at "ev") (p_asg (d := .i (0 - y)) (by walk_at "ev")))
    · rw [if_neg h, if_neg h]
      exact q_ifF (p_test (p_lt (i := y) (j := 0) (by walk_at "ev") (by walk_at "ev"))) (decide_eq_false h) s_next
  · have e : lf x y = nf (if y < 0 then 0 - x else x) (if y < 0 then 0 - y else y) := by
      unfold lf
      split <;> rfl
    rw [e]
    have h0' : 0 < (if y < 0 then 0 - y else y) := by split <;> omega
    have hx' : (if y < 0 then 0 - x else x).natAbs < 2 ^ 8500 := by
      split
      · rw [Int.zero_sub, Int.natAbs_neg]; exact hx
      · exact hx
    have hy' : (if y < 0 then 0 - y else y).natAbs < 2 ^ 8500 := by
      split
      · rw [Int.zero_sub, Int.natAbs_neg]; exact hy
      · exact hy
    generalize (if y < 0 then 0 - y else y) = v at *
    generalize (if y < 0 then 0 - x else x) = u at *
    have g0 : Int.gcd u v ≠ 0 := Int.gcd_ne_zero_right (by omega)
    have hg : (0 : Int) < (Int.gcd u v : Nat) := by omega
    have zg : ((Int.gcd u v : Nat) : Int).natAbs < 2 ^ 8500 := sz_gcd hy' (by omega)
    refine q_asg (d := .i (Int.gcd u v : Nat)) (e_is (p_call (R := RGcd) (ds := [.i (u.natAbs : Nat), .i v]) (by walk_at "ev") ⟨_, _, rfl, by omega, by omega, rfl⟩) (by rw [gcd_abs])) ?_
    refine p_ret (p_frac (x := u / (Int.gcd u v : Nat)) (y := v / (Int.gcd u v : Nat)) ?_ rfl)
    walk_at "ev"
    · exact divW hg zg (by decide)
    · exact divW hg zg (by decide)
theorem fok_law_max (Tp : Top K mg base) : FnOk P w K mg base CX0 2 Tp.f_law_max Tp.d_law_max ["a", "b"] (spP K RMax) := by
  have G_law_less := fok_law_less (P := P) (w := w) (base := base) Tp
  refine Tp.F_law_max.ok sc_law_max (fun vs H Q E h => len_P (fun _ _ ⟨_, _, e, _⟩ => by rw [e]; rfl) h) (fun cdv A outer s H vs Q E hr h => ?_)
  refine ⟨_, (pss_one (ps_ret (pe_ifExp (pt_val (pe_call G_law_less (hr.mono (by decide)) (by rfl) Tp.g_law_less Tp.F_law_less.kp Tp.b_law_less .nil pass0 (pa_cons (pv 0) (pa_cons (pv 1) pa_nil)))) (pv 1) (pv 0)))), body_P ?_ h⟩
  refine fun ds d r I => ?_
  obtain ⟨x, y, rfl, hx, hy, rfl⟩ := r
  walk_at "norm"
  refine p_ret ?_
  unfold lmx
  by_cases c : less x y = true
  · rw [if_pos c]
    exact e_ifT (t_is (t_B (p_call (R := RLess) (ds := [.d (fr x), .d (fr y)]) (by walk_at "ev") ⟨_, _, rfl, hx, hy, rfl⟩)) c) (by walk_at "ev")
  · rw [if_neg c]
    exact e_ifF (t_is (t_B (p_call (R := RLess) (ds := [.d (fr x), .d (fr y)]) (by walk_at "ev") ⟨_, _, rfl, hx, hy, rfl⟩)) (Bool.eq_false_iff.mpr c)) (by walk_at "ev")
theorem fok_law_sorted (Tp : Top K mg base) : FnOk P w K mg base CX0 2 Tp.f_law_sorted Tp.d_law_sorted ["items"] (spP K RSorted) := by
  have G_law_less := fok_law_less (P := P) (w := w) (base := base) Tp
  refine Tp.F_law_sorted.ok sc_law_sorted (fun vs H Q E h => len_P (fun _ _ ⟨_, e, _⟩ => by rw [e]; rfl) h) (fun cdv A outer s H vs Q E hr h => ?_)
  refine ⟨_, (pss_cons (ps_set (i := 1) sc_law_sorted.nd rfl (.inl rfl) (pe_lst pa_nil))
      (pss_cons (ps_for PassesOwn.never rfl (pi_list (pv 0)) (pg_name (i := 2) sc_law_sorted.nd rfl (.inr rfl)) (pss_cons (ps_set (i := 3) sc_law_sorted.nd rfl (.inl rfl) (pe_callB call_len_seq (by rfl) Tp.n_len (by decide +kernel) (pa_cons (pe_lc (own := [("one", 4)]) (g := gName 4) rfl sc_law_sorted.nd (pi_list (pv 1)) (blkOk_by (N := ["items", "out", "item", "at", "one"]) (sc := defScope s_law_sorted) (by decide +kernel)) (fun _ _ _ _ _ => pg_name (i := 4) sc_law_sorted.nd rfl (Or.inl rfl)) (fun _ _ _ _ _ => (pts_one (pt_val (pe_call G_law_less (hr.mono (by decide)) (by rfl) Tp.g_law_less Tp.F_law_less.kp Tp.b_law_less .nil pass0 (pa_cons (pv 4) (pa_cons (pv 2) pa_nil)))))) (fun _ _ _ _ _ => (pv 4))) pa_nil)))
      (pss_one (ps_if (PW.pt (pw_or (pt_cmpR op_eq (pv 3) (pe_callB call_len_seq (by rfl) Tp.n_len (by decide +kernel) (pa_cons (pv 1) pa_nil)) (nomark _)) (pw_or1 (pt_cmpR (op_neD hr.units) (pe_ix (r := rIxL K) ix_list (pv 1) (pv 3) (fun _ _ => rfl)) (pv 2) (nomark _))))) (pss_one (ps_set (i := 1) sc_law_sorted.nd rfl (.inl rfl) (pe_op op_cat (pe_op op_cat (pe_slice (r := rSlL K) sl_list (pv 1) po_none (po_some (pv 3))) (pe_lst (pa_cons (pv 2) pa_nil))) (pe_slice (r := rSlL K) sl_list (pv 1) (po_some (pv 3)) po_none)))) pss_nil))))
      (pss_one (ps_ret (pv 1))))), body_P ?_ h⟩
  refine fun ds d r I => ?_
  obtain ⟨xs, rfl, hs, hl, rfl⟩ := r
  walk_at "norm"
  refine q_asg (d := .d (.list [])) (e_lst a_nil .nil (by decide)) ?_
  have len : (xs.map fr).length = xs.length := by simp
  refine s_seq (s_forL (ds := xs.map fr) (j := 2) (fun i => [some (.d (.list (xs.map fr))), some (.d (.list ((sortF (xs.take i)).map fr))), none, none, none]) (fun _ => I) (e_var rfl) rfl fun i x hx => ?_) ?_
  rotate_left
  · refine p_ret (e_is (e_var rfl) ?_)
    rw [len, List.take_length]
  · rw [List.getElem?_map, Option.map_eq_some_iff] at hx
    obtain ⟨f, hf, rfl⟩ := hx
    have fm := List.mem_of_getElem? hf
    have e : sortF (xs.take (i + 1)) = ins f (sortF (xs.take i)) := by
      rw [List.take_add_one, hf]
      exact sort_snoc _ _
    have so := (sort_ok (xs := xs.take i) fun y hy => (hs y (List.mem_of_mem_take hy)).nrm).2
    have sl := sort_len (xs.take i)
    rw [List.length_take] at sl
    rw [e]
    have ho : ∀ y ∈ sortF (xs.take i), PL.Ok 4000 y := fun y hy => hs y (List.mem_of_mem_take ((so y).mp hy))
    generalize sortF (xs.take i) = out at *
    refine s_lessN (ρ' := [some (.d (.list (xs.map fr))), some (.d (.list ((ins f out).map fr))), some (.d (fr f)), some (.i ((out.filter fun y => less y f).length : Nat)), none]) ⟨.inr rfl, .inr rfl, .inl rfl, .inl rfl, .inr rfl, trivial⟩ ?_
    refine q_asg (d := .i ((out.filter fun y => less y f).length : Nat)) (e_is (p_len (ds := (out.filter fun y => less y f).map fr) (p_cons (e_is (e_lcK (ds := out.map fr) (bs := out.map fun y => less y f) (j := 4) (e_var rfl) (by simp) (by rw [List.length_map]; omega) (show 4 < 5 by decide) fun i x b hx hb I => ?_) (by rw [keepL_fr])) a_nil)) (by rw [List.length_map])) ?_
    · rw [List.getElem?_map, Option.map_eq_some_iff] at hx
      obtain ⟨z, hz, rfl⟩ := hx
      rw [List.getElem?_map, hz] at hb
      obtain rfl : b = less z f := by simpa using hb.symm
      exact t_B (p_call (R := RLess) (ds := [.d (fr z), .d (fr f)]) (by walk_at "ev") ⟨_, _, rfl, ho z (List.mem_of_getElem? hz), hs f fm, rfl⟩)
    have hn : (out.filter fun y => less y f).length ≤ out.length := List.length_filter_le _ _
    unfold ins
    generalize (out.filter fun y => less y f).length = n at *
    have put : out[n]? ≠ some f → out[n]? = out[n]? := fun _ => rfl
    have e1 : (out.map fr).take n ++ [fr f] ++ (out.map fr).drop n = (out.take n ++ [f] ++ out.drop n).map fr := by simp [List.map_take, List.map_drop]
    have l1 : ((out.map fr).take n).length + [fr f].length ≤ 100000 := by
      rw [List.length_take, List.length_map]
      show _ + 1 ≤ _
      omega
    have l2 : ((out.map fr).take n ++ [fr f]).length + ((out.map fr).drop n).length ≤ 100000 := by
      rw [List.length_append, List.length_take, List.length_drop, List.length_map]
      show _ + 1 + _ ≤ _
      omega
    by_cases c : n = out.length
    · show S _ _ _ _ (.nx [_, some (.d (.list ((if n = out.length ∨ out[n]? ≠ some f then out.take n ++ [f] ++ out.drop n else out).map fr))), _, _, _] _)
      rw [if_pos (.inl c), ← e1]
      exact q_ifT (t_orT (t_is (p_test (p_eqI (i := (n : Nat)) (j := ((out.map fr).length : Nat)) (by walk_at "ev") (by walk_at "ev"))) (decide_eq_true (by rw [List.length_map, c])))) rfl (p_asg (e_l2d (e_cat (e_cat (e_sliceTo (e_var rfl) (e_var rfl)) (e_lstL (p_cons (e_var rfl) a_nil) (.cons .nil) (show 1 ≤ 100000 by decide)) l1) (e_sliceFrom (e_var rfl) (e_var rfl)) l2)))
    · have hlt : n < out.length := by omega
      obtain ⟨y, hy⟩ : ∃ y, out[n]? = some y := ⟨_, List.getElem?_eq_getElem hlt⟩
      have hy' : (out.map fr)[n]? = some (fr y) := by rw [List.getElem?_map, hy]; rfl
      show S _ _ _ _ (.nx [_, some (.d (.list ((if n = out.length ∨ out[n]? ≠ some f then out.take n ++ [f] ++ out.drop n else out).map fr))), _, _, _] _)
      by_cases c2 : y = f
      · rw [if_neg (by rw [hy, c2]; simp [c])]
        exact q_ifF (t_orF (t_is (p_test (p_eqI (i := (n : Nat)) (j := ((out.map fr).length : Nat)) (by walk_at "ev") (by walk_at "ev"))) (decide_eq_false (by rw [List.length_map]; omega))) (p_test (p_neD (x := fr y) (y := fr f) (e_ixL (j := n) (e_var rfl) (e_var rfl) hy') (e_var rfl) rfl rfl))) (by rw [c2, eqv_fr]; rfl) s_next
      · rw [if_pos (.inr (by rw [hy]; simpa using c2)), ← e1]
        exact q_ifT (t_orF (t_is (p_test (p_eqI (i := (n : Nat)) (j := ((out.map fr).length : Nat)) (by walk_at "ev") (by walk_at "ev"))) (decide_eq_false (by rw [List.length_map]; omega))) (p_test (p_neD (x := fr y) (y := fr f) (e_ixL (j := n) (e_var rfl) (e_var rfl) hy') (e_var rfl) rfl rfl))) (by rw [eqv_ne c2]; rfl) (p_asg (e_l2d (e_cat (e_cat (e_sliceTo (e_var rfl) (e_var rfl)) (e_lstL (p_cons (e_var rfl) a_nil) (.cons .nil) (show 1 ≤ 100000 by decide)) l1) (e_sliceFrom (e_var rfl) (e_var rfl)) l2)))
theorem fok_subtract (Tp : Top K mg base) : FnOk P w K mg base CX0 3 Tp.f_subtract Tp.d_subtract ["a", "b"] (spP K (RVec2 minusM)) := by
  have G_minus := fok_minus (P := P) (w := w) (base := base) Tp
  refine Tp.F_subtract.ok sc_subtract (fun vs H Q E h => len_P (fun _ _ z => z.len) h) (fun cdv A outer s H vs Q E hr h => ?_)
  refine ⟨_, (pss_one (ps_ret (pe_tup (pa_cons (pe_call G_minus (hr.mono (by decide)) (by rfl) Tp.g_minus Tp.F_minus.kp Tp.b_minus .nil pass0 (pa_cons (pe_ix (r := rIxT K) ix_tup (pv 0) pe_int (fun _ _ => rfl)) (pa_cons (pe_ix (r := rIxT K) ix_tup (pv 1) pe_int (fun _ _ => rfl)) pa_nil))) (pa_cons (pe_call G_minus (hr.mono (by decide)) (by rfl) Tp.g_minus Tp.F_minus.kp Tp.b_minus .nil pass0 (pa_cons (pe_ix (r := rIxT K) ix_tup (pv 0) pe_int (fun _ _ => rfl)) (pa_cons (pe_ix (r := rIxT K) ix_tup (pv 1) pe_int (fun _ _ => rfl)) pa_nil))) pa_nil))))), body_P ?_ h⟩
  refine fun ds d r I => ?_
  obtain ⟨a, b, x, y, rfl, ha, hb, hx, hy, rfl⟩ := r
  walk_at "norm"
  refine p_ret (p_tup2 (p_cons (p_call (R := RPlus minusM) (ds := [.d (fr a), .d (fr x)]) (by walk_at "ev") (RPlus.mk ha hx)) (p_cons (p_call (R := RPlus minusM) (ds := [.d (fr b), .d (fr y)]) (by walk_at "ev") (RPlus.mk hb hy)) a_nil)))
theorem fok_passing (Tp : Top K mg base) : FnOk P w K mg base (L2.CX P w) 3 Tp.f_passing Tp.d_passing ["low", "high", "way"] (spX K RPassing) := by
  have G_over := fok_over (P := P) (w := w) (base := base) Tp
  refine Tp.F_passing.okX sc_passing (fun vs H Q E h => len_X (fun _ _ ⟨_, _, _, e, _⟩ => by rw [e]; rfl) h) (fun cdv A outer s H vs Q E hr h => ?_)
  refine ⟨_, (pss_cons (ps_set (i := 3) sc_passing.nd rfl (.inl rfl) (pe_call G_over (hr.mono (by decide)) (by rfl) Tp.g_over Tp.F_over.kp Tp.b_over .nil (passes_call (takes_of rfl rfl rfl rfl) (fun _ _ _ _ z => z)) (pa_cons (pv 0) (pa_cons (pv 2) pa_nil))))
      (pss_cons (ps_set (i := 4) sc_passing.nd rfl (.inl rfl) (pe_call G_over (hr.mono (by decide)) (by rfl) Tp.g_over Tp.F_over.kp Tp.b_over .nil (passes_call (takes_of rfl rfl rfl rfl) (fun _ _ _ _ z => z)) (pa_cons (pv 1) (pa_cons (pv 2) pa_nil))))
      (pss_cons (ps_if (pt_cmpR op_gt (pe_ix (r := rIxT K) ix_tup (pv 2) pe_int (fun _ _ => rfl)) pe_int (nomark _)) (pss_one (ps_ret (pe_tup (pa_cons (pv 3) (pa_cons (pv 4) pa_nil))))) pss_nil)
      (pss_one (ps_ret (pe_tup (pa_cons (pv 4) (pa_cons (pv 3) pa_nil)))))))), body_X ?_ h⟩
  refine fun ds r hr I hx => ?_
  obtain ⟨lo, hi, w, rfl, h1, h2, h3, h0, rfl⟩ := hr
  walk_at "norm"
  refine q_asg (d := .d (fr (overM lo w))) (e_callX (R := ROver Tp.c_ZeroDenominator) (ds := [.d (fr lo), .d (fr w)]) (by walk_at "ev") ⟨_, _, rfl, h1, h3, .inl ⟨h0, rfl⟩⟩) ?_
  refine q_asg (d := .d (fr (overM hi w))) (e_callX (R := ROver Tp.c_ZeroDenominator) (ds := [.d (fr hi), .d (fr w)]) (by walk_at "ev") ⟨_, _, rfl, h2, h3, .inl ⟨h0, rfl⟩⟩) ?_
  unfold spanOf
  by_cases c : 0 < w.1
  · rw [if_pos c]
    exact s_stop (q_ifT (p_test (p_gt (i := w.1) (j := 0) (by walk_at "ev") (by walk_at "ev"))) (decide_eq_true c) (p_ret (p_tup2 (by walk_at "ev"))))
  · rw [if_neg c]
    exact q_skip (p_test (p_gt (i := w.1) (j := 0) (by walk_at "ev") (by walk_at "ev"))) (decide_eq_false c) (p_ret (p_tup2 (by walk_at "ev")))
theorem fok_common_span (Tp : Top K mg base) : FnOk P w K mg base CX0 3 Tp.f_common_span Tp.d_common_span ["spans"] (spP K RCommon) := by
  have G_greatest := fok_greatest (P := P) (w := w) (base := base) Tp
  have G_least := fok_least (P := P) (w := w) (base := base) Tp
  refine Tp.F_common_span.ok sc_common_span (fun vs H Q E h => len_P (fun _ _ z => by obtain ⟨_, e, _⟩ := z; rw [e]; rfl) h) (fun cdv A outer s H vs Q E hr h => ?_)
  refine ⟨_, (pss_cons (ps_set (i := 1) sc_common_span.nd rfl (.inl rfl) (pe_glob (v := .ref Tp.k_ZERO) (by rfl) Tp.gk_ZERO rfl))
      (pss_cons (ps_set (i := 2) sc_common_span.nd rfl (.inl rfl) (pe_glob (v := .ref Tp.k_ONE) (by rfl) Tp.gk_ONE rfl))
      (pss_cons (ps_for PassesOwn.never rfl (pi_list (pv 0)) (pg_tup rfl (pgs_cons (pg_name (i := 3) sc_common_span.nd rfl (.inl rfl)) (pgs_cons (pg_name (i := 4) sc_common_span.nd rfl (.inl rfl)) pgs_nil))) (pss_cons (ps_set (i := 1) sc_common_span.nd rfl (.inl rfl) (pe_call G_greatest (hr.mono (by decide)) (by rfl) Tp.g_greatest Tp.F_greatest.kp Tp.b_greatest .nil pass0 (pa_cons (pe_tup (pa_cons (pv 1) (pa_cons (pv 3) pa_nil))) pa_nil)))
      (pss_one (ps_set (i := 2) sc_common_span.nd rfl (.inl rfl) (pe_call G_least (hr.mono (by decide)) (by rfl) Tp.g_least Tp.F_least.kp Tp.b_least .nil pass0 (pa_cons (pe_tup (pa_cons (pv 2) (pa_cons (pv 4) pa_nil))) pa_nil))))))
      (pss_one (ps_ret (pe_tup (pa_cons (pv 1) (pa_cons (pv 2) pa_nil)))))))), body_P ?_ h⟩
  refine fun ds d r I => ?_
  obtain ⟨sp, rfl, hs, rfl⟩ := r
  walk_at "norm"
  refine q_asg (d := .d (fr (0, 1))) (e_glob (dp_const Tp.dk_ZERO fun G => .cons (.int 0) (.cons (.int 1) .nil))) ?_
  refine q_asg (d := .d (fr (1, 1))) (e_glob (dp_const Tp.dk_ONE fun G => .cons (.int 1) (.cons (.int 1) .nil))) ?_
  have len : (sp.map pr).length = sp.length := by simp
  refine s_seq (s_forLG (ds := sp.map pr) (P := fun i => [some (.d (.list (sp.map pr))), some (.d (fr (fstM (sp.take i)))), some (.d (fr (lstM (sp.take i)))), none, none]) (V := fun _ => I) (e_var rfl) rfl (Turns.all fun i x hi hx => ?_)) (p_ret (e_is (p_tup2 (by walk_at "ev")) ?_))
  rotate_left
  · rw [len, List.take_length]
  · have hx' : (sp.map pr)[i]? = some x := hx
    rw [List.getElem?_map, Option.map_eq_some_iff] at hx'
    obtain ⟨s, hs', rfl⟩ := hx'
    have sm := List.mem_of_getElem? hs'
    refine ⟨_, g_tup rfl (g_cons g_name (g_cons g_name g_nil)), ?_⟩
    have e1 : fstM (sp.take (i + 1)) = mx (fstM (sp.take i)) s.1 := by
      rw [List.take_add_one, hs']
      unfold fstM
      rw [List.foldl_append]
      rfl
    have e2 : lstM (sp.take (i + 1)) = mn (lstM (sp.take i)) s.2 := by
      rw [List.take_add_one, hs']
      unfold lstM
      rw [List.foldl_append]
      rfl
    have o1 : PL.Ok 4000 (fstM (sp.take i)) := fst_in (fun s hs'' => (hs s (List.mem_of_mem_take hs'')).1)
    have o2 : PL.Ok 4000 (lstM (sp.take i)) := lst_in (fun s hs'' => (hs s (List.mem_of_mem_take hs'')).2)
    rw [e1, e2]
    generalize fstM (sp.take i) = f at *
    generalize lstM (sp.take i) = l at *
    refine s_lessN (ρ' := [some (.d (.list (sp.map pr))), some (.d (fr (mx f s.1))), some (.d (fr (mn l s.2))), some (.d (fr s.1)), some (.d (fr s.2))]) ⟨.inr rfl, .inr rfl, .inr rfl, .inl rfl, .inl rfl, trivial⟩ ?_
    refine q_asg (d := .d (fr (mx f s.1))) (p_call (R := RBest more) (ds := [.t [fr f, fr s.1]]) (p_cons (p_tup2 (by walk_at "ev")) a_nil) ⟨f, [s.1], rfl, ?_, rfl⟩) ?_
    · intro y hy
      rcases List.mem_cons.mp hy with rfl | hy
      · exact o1
      · rw [List.mem_singleton.mp hy]
        exact (hs s sm).1
    · refine p_asg (d := .d (fr (mn l s.2))) (p_call (R := RBest less) (ds := [.t [fr l, fr s.2]]) (p_cons (p_tup2 (by walk_at "ev")) a_nil) ⟨l, [s.2], rfl, ?_, rfl⟩)
      intro y hy
      rcases List.mem_cons.mp hy with rfl | hy
      · exact o2
      · rw [List.mem_singleton.mp hy]
        exact (hs s sm).2
theorem fok_law_plus (Tp : Top K mg base) : FnOk P w K mg base CX0 3 Tp.f_law_plus Tp.d_law_plus ["a", "b"] (spP K (RPlus lplus)) := by
  have G_law_f := fok_law_f (P := P) (w := w) (base := base) Tp
  refine Tp.F_law_plus.ok sc_law_plus (fun vs H Q E h => len_P (fun _ _ z => z.len) h) (fun cdv A outer s H vs Q E hr h => ?_)
  refine ⟨_, (pss_one (ps_ret (pe_call G_law_f (hr.mono (by decide)) (by rfl) Tp.g_law_f Tp.F_law_f.kp Tp.b_law_f .nil pass0 (pa_cons (pe_op op_add (pe_op op_mulW (pe_ix (r := rIxT K) ix_tup (pv 0) pe_int (fun _ _ => rfl)) (pe_ix (r := rIxT K) ix_tup (pv 1) pe_int (fun _ _ => rfl))) (pe_op op_mulW (pe_ix (r := rIxT K) ix_tup (pv 1) pe_int (fun _ _ => rfl)) (pe_ix (r := rIxT K) ix_tup (pv 0) pe_int (fun _ _ => rfl)))) (pa_cons (pe_op op_mulW (pe_ix (r := rIxT K) ix_tup (pv 0) pe_int (fun _ _ => rfl)) (pe_ix (r := rIxT K) ix_tup (pv 1) pe_int (fun _ _ => rfl))) pa_nil))))), body_P ?_ h⟩
  refine fun ds d r I => ?_
  obtain ⟨a, b, rfl, ha, hb, rfl⟩ := r
  walk_at "norm"
  have pa := ha.nrm.1
  have pb := hb.nrm.1
  
  have na : a.2 ≠ 0 := by omega
  have nb : b.2 ≠ 0 := by omega
  have n2 : a.2 * b.2 ≠ 0 := Int.mul_ne_zero na nb
  refine p_ret (p_call (R := RF) (ds := [.i (a.1 * b.2 + b.1 * a.2), .i (a.2 * b.2)]) ?_ (RF.mk (m := 8001) (n := 8000) n2 (sz_add (m := 8000) (sz_mul ha.sz.1 hb.sz.2) (sz_mul hb.sz.1 ha.sz.2)) (sz_mul ha.sz.2 hb.sz.2) (by decide) (by decide)))
  walk_at "ev"
  all_goals first | exact mulW ha.sz.1 hb.sz.1 (by decide) | exact mulW ha.sz.1 hb.sz.2 (by decide) | exact mulW hb.sz.1 ha.sz.2 (by decide) | exact mulW ha.sz.2 hb.sz.2 (by decide)
theorem fok_law_minus (Tp : Top K mg base) : FnOk P w K mg base CX0 3 Tp.f_law_minus Tp.d_law_minus ["a", "b"] (spP K (RPlus lminus)) := by
  have G_law_f := fok_law_f (P := P) (w := w) (base := base) Tp
  refine Tp.F_law_minus.ok sc_law_minus (fun vs H Q E h => len_P (fun _ _ z => z.len) h) (fun cdv A outer s H vs Q E hr h => ?_)
  refine ⟨_, (pss_one (ps_ret (pe_call G_law_f (hr.mono (by decide)) (by rfl) Tp.g_law_f Tp.F_law_f.kp Tp.b_law_f .nil pass0 (pa_cons (pe_op op_sub (pe_op op_mulW (pe_ix (r := rIxT K) ix_tup (pv 0) pe_int (fun _ _ => rfl)) (pe_ix (r := rIxT K) ix_tup (pv 1) pe_int (fun _ _ => rfl))) (pe_op op_mulW (pe_ix (r := rIxT K) ix_tup (pv 1) pe_int (fun _ _ => rfl)) (pe_ix (r := rIxT K) ix_tup (pv 0) pe_int (fun _ _ => rfl)))) (pa_cons (pe_op op_mulW (pe_ix (r := rIxT K) ix_tup (pv 0) pe_int (fun _ _ => rfl)) (pe_ix (r := rIxT K) ix_tup (pv 1) pe_int (fun _ _ => rfl))) pa_nil))))), body_P ?_ h⟩
  refine fun ds d r I => ?_
  obtain ⟨a, b, rfl, ha, hb, rfl⟩ := r
  walk_at "norm"
  have pa := ha.nrm.1
  have pb := hb.nrm.1
  
  have na : a.2 ≠ 0 := by omega
  have nb : b.2 ≠ 0 := by omega
  have n2 : a.2 * b.2 ≠ 0 := Int.mul_ne_zero na nb
  refine p_ret (p_call (R := RF) (ds := [.i (a.1 * b.2 - b.1 * a.2), .i (a.2 * b.2)]) ?_ (RF.mk (m := 8001) (n := 8000) n2 (sz_sub (m := 8000) (sz_mul ha.sz.1 hb.sz.2) (sz_mul hb.sz.1 ha.sz.2)) (sz_mul ha.sz.2 hb.sz.2) (by decide) (by decide)))
  walk_at "ev"
  all_goals first | exact mulW ha.sz.1 hb.sz.1 (by decide) | exact mulW ha.sz.1 hb.sz.2 (by decide) | exact mulW hb.sz.1 ha.sz.2 (by decide) | exact mulW ha.sz.2 hb.sz.2 (by decide)
theorem fok_law_times (Tp : Top K mg base) : FnOk P w K mg base CX0 3 Tp.f_law_times Tp.d_law_times ["a", "b"] (spP K (RPlus ltimes)) := by
  have G_law_f := fok_law_f (P := P) (w := w) (base := base) Tp
  refine Tp.F_law_times.ok sc_law_times (fun vs H Q E h => len_P (fun _ _ z => z.len) h) (fun cdv A outer s H vs Q E hr h => ?_)
  refine ⟨_, (pss_one (ps_ret (pe_call G_law_f (hr.mono (by decide)) (by rfl) Tp.g_law_f Tp.F_law_f.kp Tp.b_law_f .nil pass0 (pa_cons (pe_op op_mulW (pe_ix (r := rIxT K) ix_tup (pv 0) pe_int (fun _ _ => rfl)) (pe_ix (r := rIxT K) ix_tup (pv 1) pe_int (fun _ _ => rfl))) (pa_cons (pe_op op_mulW (pe_ix (r := rIxT K) ix_tup (pv 0) pe_int (fun _ _ => rfl)) (pe_ix (r := rIxT K) ix_tup (pv 1) pe_int (fun _ _ => rfl))) pa_nil))))), body_P ?_ h⟩
  refine fun ds d r I => ?_
  obtain ⟨a, b, rfl, ha, hb, rfl⟩ := r
  walk_at "norm"
  have pa := ha.nrm.1
  have pb := hb.nrm.1
  
  have na : a.2 ≠ 0 := by omega
  have nb : b.2 ≠ 0 := by omega
  have n2 : a.2 * b.2 ≠ 0 := Int.mul_ne_zero na nb
  refine p_ret (p_call (R := RF) (ds := [.i (a.1 * b.1), .i (a.2 * b.2)]) ?_ (RF.mk (m := 8001) (n := 8000) n2 (sz_le (sz_mul (m := 4000) (n := 4000) ha.sz.1 hb.sz.1) (by decide)) (sz_mul ha.sz.2 hb.sz.2) (by decide) (by decide)))
  walk_at "ev"
  all_goals first | exact mulW ha.sz.1 hb.sz.1 (by decide) | exact mulW ha.sz.1 hb.sz.2 (by decide) | exact mulW hb.sz.1 ha.sz.2 (by decide) | exact mulW ha.sz.2 hb.sz.2 (by decide)
theorem fok_law_part (Tp : Top K mg base) : FnOk P w K mg base CX0 3 Tp.f_law_part Tp.d_law_part ["d", "most"] (spW K RPart) := by
  have G_law_f := fok_law_f (P := P) (w := w) (base := base) Tp
  have G_law_signed := fok_law_signed (P := P) (w := w) (base := base) Tp
  have G_law_take := fok_law_take (P := P) (w := w) (base := base) Tp
  refine Tp.F_law_part.ok sc_law_part (fun vs H Q E h => len_W (fun _ _ _ _ ⟨_, e, _⟩ => by rw [e]; rfl) h) (fun cdv A outer s H vs Q E hr h => ?_)
  refine ⟨_, (pss_one (ps_ret (pe_call G_law_f (hr.mono (by decide)) (by rfl) Tp.g_law_f Tp.F_law_f.kp Tp.b_law_f .nil pass0 (pa_cons (pe_call G_law_signed (hr.mono (by decide)) (by rfl) Tp.g_law_signed Tp.F_law_signed.kp Tp.b_law_signed .nil pass0 (pa_cons (pv 0) (pa_cons (pe_op op_mulW (pv 1) pe_int) pa_nil))) (pa_cons (pe_op op_add pe_int (pe_call G_law_take (hr.mono (by decide)) (by rfl) Tp.g_law_take Tp.F_law_take.kp Tp.b_law_take .nil pass0 (pa_cons (pv 0) (pa_cons pe_int pa_nil)))) pa_nil))))), body_W ?_ h⟩
  refine fun ds C d C' r p J hf => ?_
  obtain ⟨m, rfl, ok, hm, hz, rfl, rfl⟩ := r
  walk_at "norm"
  have z2 : (m * 2).natAbs < 2 ^ 7002 := sz_mul (n := 2) hz (by decide)
  obtain ⟨o1, b1, b2⟩ := take_ok (C := C) (m := 2 * (m * 2) + 1) ok (by omega)
  obtain ⟨o2, b3, b4⟩ := take_ok (C := (take C (2 * (m * 2) + 1)).2) (m := 3) o1 (by omega)
  refine s_ret (e_call (R := RF) (a_cons (e_draw (R := RSigned) (ds := [.i (m * 2)]) (C := C) (p_cons (e_var rfl) (p_cons (p_mul (e_var rfl) e_int (mulW (m := 7000) (n := 2) hz (by decide) (by decide))) a_nil)) ⟨_, rfl, ok, by omega, sz_le z2 (by decide), rfl, rfl⟩ hf)
    (a_cons (e_add e_int (e_draw (R := RTake) (ds := [.i 3]) (p_cons (e_var rfl) (p_cons e_int a_nil)) ⟨_, rfl, o1, by decide, Nat.lt_of_lt_of_le (show (3 : Int).natAbs < 2 ^ 2 by decide) (Nat.pow_le_pow_right (by decide) (by decide)), rfl, rfl⟩ hf)) a_nil)) ?_)
  refine RF.mk (m := 7010) (n := 7010) (by omega) ?_ ?_ (by decide) (by decide)
  · have : (2 : Nat) ^ 7010 = 2 ^ 7002 * 256 := by decide +kernel
    omega
  · refine Nat.lt_of_lt_of_le (show _ < 2 ^ 3 by omega) (Nat.pow_le_pow_right (by decide) (by decide))
theorem fok_law_size (Tp : Top K mg base) : FnOk P w K mg base CX0 3 Tp.f_law_size Tp.d_law_size ["d"] (spW K RSize) := by
  have G_law_f := fok_law_f (P := P) (w := w) (base := base) Tp
  have G_law_take := fok_law_take (P := P) (w := w) (base := base) Tp
  refine Tp.F_law_size.ok sc_law_size (fun vs H Q E h => len_W (fun _ _ _ _ z => by obtain ⟨e, _⟩ := z; rw [e]; rfl) h) (fun cdv A outer s H vs Q E hr h => ?_)
  refine ⟨_, (pss_one (ps_ret (pe_tup (pa_cons (pe_call G_law_f (hr.mono (by decide)) (by rfl) Tp.g_law_f Tp.F_law_f.kp Tp.b_law_f .nil pass0 (pa_cons (pe_op op_add pe_int (pe_call G_law_take (hr.mono (by decide)) (by rfl) Tp.g_law_take Tp.F_law_take.kp Tp.b_law_take .nil pass0 (pa_cons (pv 0) (pa_cons pe_int pa_nil)))) (pa_cons (pe_op op_add pe_int (pe_call G_law_take (hr.mono (by decide)) (by rfl) Tp.g_law_take Tp.F_law_take.kp Tp.b_law_take .nil pass0 (pa_cons (pv 0) (pa_cons pe_int pa_nil)))) pa_nil))) (pa_cons (pe_call G_law_f (hr.mono (by decide)) (by rfl) Tp.g_law_f Tp.F_law_f.kp Tp.b_law_f .nil pass0 (pa_cons (pe_op op_add pe_int (pe_call G_law_take (hr.mono (by decide)) (by rfl) Tp.g_law_take Tp.F_law_take.kp Tp.b_law_take .nil pass0 (pa_cons (pv 0) (pa_cons pe_int pa_nil)))) (pa_cons (pe_op op_add pe_int (pe_call G_law_take (hr.mono (by decide)) (by rfl) Tp.g_law_take Tp.F_law_take.kp Tp.b_law_take .nil pass0 (pa_cons (pv 0) (pa_cons pe_int pa_nil)))) pa_nil))) pa_nil))))), body_W ?_ h⟩
  refine fun ds C d C' r p J hf => ?_
  obtain ⟨rfl, ok, rfl, rfl⟩ := r
  walk_at "norm"
  obtain ⟨o1, a1, a2⟩ := take_ok (C := C) (m := 6) ok (by decide)
  obtain ⟨o2, b1, b2⟩ := take_ok (C := (take C 6).2) (m := 2) o1 (by decide)
  obtain ⟨o3, c1, c2⟩ := take_ok (C := (take (take C 6).2 2).2) (m := 6) o2 (by decide)
  obtain ⟨o4, e1, e2⟩ := take_ok (C := (take (take (take C 6).2 2).2 6).2) (m := 2) o3 (by decide)
  have z6 : (6 : Int).natAbs < 2 ^ 8500 := sz_le (m := 3) (by decide) (by decide)
  have z2 : (2 : Int).natAbs < 2 ^ 8500 := sz_le (m := 3) (by decide) (by decide)
  exact s_ret (e_tup (a_cons (e_call (R := RF) (a_cons (e_add e_int (e_draw (R := RTake) (ds := [.i 6]) (C := C) (by walk_at "ev") ⟨_, rfl, ok, by decide, z6, rfl, rfl⟩ hf)) (a_cons (e_add e_int (e_draw (R := RTake) (ds := [.i 2]) (by walk_at "ev") ⟨_, rfl, o1, by decide, z2, rfl, rfl⟩ hf)) a_nil)) (RF.mk (m := 10) (n := 10) (by omega) (by omega) (by omega) (by decide) (by decide)))
    (a_cons (e_call (R := RF) (a_cons (e_add e_int (e_draw (R := RTake) (ds := [.i 6]) (by walk_at "ev") ⟨_, rfl, o2, by decide, z6, rfl, rfl⟩ hf)) (a_cons (e_add e_int (e_draw (R := RTake) (ds := [.i 2]) (by walk_at "ev") ⟨_, rfl, o3, by decide, z2, rfl, rfl⟩ hf)) a_nil)) (RF.mk (m := 10) (n := 10) (by omega) (by omega) (by omega) (by decide) (by decide))) a_nil)) (.cons (.cons .nil)) (show 2 ≤ 100000 by decide))
theorem fok_overlap_times (Tp : Top K mg base) : FnOk P w K mg base (L2.CX P w) 4 Tp.f_overlap_times Tp.d_overlap_times ["a", "move_a", "b", "move_b"] (spX K (RSweep Tp.c_BoxError)) := by
  have G_check_box := fok_check_box (P := P) (w := w) (base := base) Tp
  have G_common_span := fok_common_span (P := P) (w := w) (base := base) Tp
  have G_ends_of := fok_ends_of (P := P) (w := w) (base := base) Tp
  have G_subtract := fok_subtract (P := P) (w := w) (base := base) Tp
  have G_minus := fok_minus (P := P) (w := w) (base := base) Tp
  have G_compare := fok_compare (P := P) (w := w) (base := base) Tp
  have G_passing := fok_passing (P := P) (w := w) (base := base) Tp
  refine Tp.F_overlap_times.okX sc_overlap_times (fun vs H Q E h => len_X (fun _ _ ⟨_, _, _, _, _, _, e, _⟩ => by rw [e]; rfl) h) (fun cdv A outer s H vs Q E hr h => ?_)
  refine ⟨_, (pss_cons (ps_expr (pe_call G_check_box (hr.mono (by decide)) (by rfl) Tp.g_check_box Tp.F_check_box.kp Tp.b_check_box .nil (passes_call (takes_of rfl rfl rfl rfl) (fun _ _ _ _ z => z)) (pa_cons (pv 0) pa_nil)))
      (pss_cons (ps_expr (pe_call G_check_box (hr.mono (by decide)) (by rfl) Tp.g_check_box Tp.F_check_box.kp Tp.b_check_box .nil (passes_call (takes_of rfl rfl rfl rfl) (fun _ _ _ _ z => z)) (pa_cons (pv 2) pa_nil)))
      (pss_cons (ps_set (i := 4) sc_overlap_times.nd rfl (.inl rfl) (pe_lst pa_nil))
      (pss_cons (ps_for (passes_of rfl) rfl (pi_zip3 (by rfl) Tp.n_zip (pa_cons (pe_call G_ends_of (hr.mono (by decide)) (by rfl) Tp.g_ends_of Tp.F_ends_of.kp Tp.b_ends_of .nil pass0 (pa_cons (pv 0) pa_nil)) (pa_cons (pe_call G_ends_of (hr.mono (by decide)) (by rfl) Tp.g_ends_of Tp.F_ends_of.kp Tp.b_ends_of .nil pass0 (pa_cons (pv 2) pa_nil)) (pa_cons (pe_call G_subtract (hr.mono (by decide)) (by rfl) Tp.g_subtract Tp.F_subtract.kp Tp.b_subtract .nil pass0 (pa_cons (pv 3) (pa_cons (pv 1) pa_nil))) pa_nil)))) (pg_tup rfl (pgs_cons (pg_tup rfl (pgs_cons (pg_name (i := 5) sc_overlap_times.nd rfl (.inl rfl)) (pgs_cons (pg_name (i := 6) sc_overlap_times.nd rfl (.inl rfl)) pgs_nil))) (pgs_cons (pg_tup rfl (pgs_cons (pg_name (i := 7) sc_overlap_times.nd rfl (.inl rfl)) (pgs_cons (pg_name (i := 8) sc_overlap_times.nd rfl (.inl rfl)) pgs_nil))) (pgs_cons (pg_name (i := 9) sc_overlap_times.nd rfl (.inl rfl)) pgs_nil)))) (pss_cons (ps_set (i := 10) sc_overlap_times.nd rfl (.inl rfl) (pe_call G_minus (hr.mono (by decide)) (by rfl) Tp.g_minus Tp.F_minus.kp Tp.b_minus .nil pass0 (pa_cons (pv 5) (pa_cons (pv 8) pa_nil))))
      (pss_cons (ps_set (i := 11) sc_overlap_times.nd rfl (.inl rfl) (pe_call G_minus (hr.mono (by decide)) (by rfl) Tp.g_minus Tp.F_minus.kp Tp.b_minus .nil pass0 (pa_cons (pv 6) (pa_cons (pv 7) pa_nil))))
      (pss_one (ps_if (pt_cmpR op_ne (pe_ix (r := rIxT K) ix_tup (pv 9) pe_int (fun _ _ => rfl)) pe_int (nomark _)) (pss_one (ps_expr (pe_bm PySem.F.plainAttrs_list PySem.F.slot_list_append PySem.F.type_list_append mt_append (pv 4) (pa_cons (pe_call G_passing (hr.mono (by decide)) (by rfl) Tp.g_passing Tp.F_passing.kp Tp.b_passing .nil (passes_call (takes_of rfl rfl rfl rfl) (fun _ _ _ _ z => z)) (pa_cons (pv 10) (pa_cons (pv 11) (pa_cons (pv 9) pa_nil)))) pa_nil)))) (pss_one (ps_if (PW.pt (pw_or (pt_cmpR op_ge (pe_ix (r := rIxT K) ix_tup (pv 10) pe_int (fun _ _ => rfl)) pe_int (nomark _)) (pw_or1 (pt_cmpR op_le (pe_ix (r := rIxT K) ix_tup (pv 11) pe_int (fun _ _ => rfl)) pe_int (nomark _))))) (pss_one (ps_ret pe_non)) pss_nil)))))))
      (pss_cons (ps_asg (pe_call G_common_span (hr.mono (by decide)) (by rfl) Tp.g_common_span Tp.F_common_span.kp Tp.b_common_span .nil pass0 (pa_cons (pv 4) pa_nil)) (pg_tup rfl (pgs_cons (pg_name (i := 12) sc_overlap_times.nd rfl (.inl rfl)) (pgs_cons (pg_name (i := 13) sc_overlap_times.nd rfl (.inl rfl)) pgs_nil))))
      (pss_cons (ps_if (pt_cmpR op_ge (pe_call G_compare (hr.mono (by decide)) (by rfl) Tp.g_compare Tp.F_compare.kp Tp.b_compare .nil pass0 (pa_cons (pv 12) (pa_cons (pv 13) pa_nil))) pe_int (nomark _)) (pss_one (ps_ret pe_non)) pss_nil)
      (pss_one (ps_ret (pe_tup (pa_cons (pv 12) (pa_cons (pv 13) pa_nil))))))))))), body_X ?_ h⟩
  refine fun ds r hr I hx => ?_
  obtain ⟨a, b, u0, u1, v0, v1, rfl, ok, hr⟩ := hr
  walk_at "norm"
  rcases hr with ⟨h0, h1, rfl⟩ | ⟨h0, rfl⟩
  rotate_left
  · by_cases ha : a.sized = true
    · rw [ha, Bool.true_and] at h0
      refine s_seq (s_drop (e_callX (R := RCheck Tp.c_BoxError) (ds := [.d (bxd a)]) (by walk_at "ev") ⟨a, rfl, .inl ⟨ha, rfl⟩⟩)) ?_
      exact s_err (s_dropE (e_callE (R := RCheck Tp.c_BoxError) (ds := [.d (bxd b)]) (L := .no) (d := .d .none) (by walk_at "ev") ⟨b, rfl, .inr ⟨h0, rfl⟩⟩ fun G H io => hx _ rfl G H io) fun _ _ z => z)
    · exact s_err (s_dropE (e_callE (R := RCheck Tp.c_BoxError) (ds := [.d (bxd a)]) (L := .no) (d := .d .none) (by walk_at "ev") ⟨a, rfl, .inr ⟨Bool.eq_false_iff.mpr ha, rfl⟩⟩ fun G H io => hx _ rfl G H io) fun _ _ z => z)
  refine s_seq (s_drop (e_callX (R := RCheck Tp.c_BoxError) (ds := [.d (bxd a)]) (by walk_at "ev") ⟨a, rfl, .inl ⟨h0, rfl⟩⟩)) ?_
  refine s_seq (s_drop (e_callX (R := RCheck Tp.c_BoxError) (ds := [.d (bxd b)]) (by walk_at "ev") ⟨b, rfl, .inl ⟨h1, rfl⟩⟩)) ?_
  refine s_newL fun q hq => ?_
  have sA := ok.x0
  have sB := ok.x1
  have hzip : ∀ i x, zip3 [vcd a.p0 (plusM a.p0 a.s0), vcd a.p1 (plusM a.p1 a.s1)] [vcd b.p0 (plusM b.p0 b.s0), vcd b.p1 (plusM b.p1 b.s1)] [fr (minusM v0 u0), fr (minusM v1 u1)] i = some x → (i = 0 ∧ x = .tuple [.tuple [fr (sx0 a b u0 v0).la, fr (plusM (sx0 a b u0 v0).la (sx0 a b u0 v0).sa)], .tuple [fr (sx0 a b u0 v0).lb, fr (plusM (sx0 a b u0 v0).lb (sx0 a b u0 v0).sb)], fr (sx0 a b u0 v0).w]) ∨ (i = 1 ∧ x = .tuple [.tuple [fr (sx1 a b u1 v1).la, fr (plusM (sx1 a b u1 v1).la (sx1 a b u1 v1).sa)], .tuple [fr (sx1 a b u1 v1).lb, fr (plusM (sx1 a b u1 v1).lb (sx1 a b u1 v1).sb)], fr (sx1 a b u1 v1).w]) := by
    intro i x hx'
    match i with
    | 0 => exact .inl ⟨rfl, (Option.some.inj hx').symm⟩
    | 1 => exact .inr ⟨rfl, (Option.some.inj hx').symm⟩
    | n + 2 => simp [zip3] at hx'
  generalize sx0 a b u0 v0 = A at *
  generalize sx1 a b u1 v1 = B at *
  unfold sweepM
  by_cases oA : A.out = true
  · rw [show (A.out || B.out) = true by rw [oA]; rfl, if_pos rfl]
    refine s_stop (s_forZ3 (n := 2) (m := 0) (P := fun _ => [some (.d (bxd a)), some (.d (vcd u0 u1)), some (.d (bxd b)), some (.d (vcd v0 v1)), some (.r q), none, none, none, none, none, none, none, none, none]) (V := fun _ => lJ K q [] I) (p_cons (p_call (R := REnds) (ds := [.d (bxd a)]) (p_cons (e_var rfl) a_nil) ⟨a, rfl, ok.a0.mono (by decide), ok.a1.mono (by decide), ok.a2.mono (by decide), ok.a3.mono (by decide), rfl⟩) (p_cons (p_call (R := REnds) (ds := [.d (bxd b)]) (p_cons (e_var rfl) a_nil) ⟨b, rfl, ok.b0.mono (by decide), ok.b1.mono (by decide), ok.b2.mono (by decide), ok.b3.mono (by decide), rfl⟩) (p_cons (p_call (R := RVec2 minusM) (ds := [.t [fr v0, fr v1], .t [fr u0, fr u1]]) (p_cons (e_var rfl) (p_cons (e_var rfl) a_nil)) (RVec2.mk ok.v0 ok.v1 ok.u0 ok.u1)) a_nil))) rfl rfl rfl rfl ⟨by decide, fun i x h => by omega, .inr ⟨by decide, ⟨_, _, rfl⟩, fun x hx' => ?_⟩⟩)
    rcases hzip _ _ hx' with ⟨_, rfl⟩ | ⟨c, _⟩
    · refine ⟨_, g_tup rfl (g_cons (g_tup rfl (g_cons g_name (g_cons g_name g_nil))) (g_cons (g_tup rfl (g_cons g_name (g_cons g_name g_nil))) (g_cons g_name g_nil))), ?_⟩
      refine q_asg (d := .d (fr A.lo)) (p_call (R := RPlus minusM) (ds := [.d (fr A.la), .d (fr (plusM A.lb A.sb))]) (by walk_at "ev") (RPlus.mk sA.la sA.hb)) ?_
      refine q_asg (d := .d (fr A.hi)) (p_call (R := RPlus minusM) (ds := [.d (fr (plusM A.la A.sa)), .d (fr A.lb)]) (by walk_at "ev") (RPlus.mk sA.ha sA.lb)) ?_
      refine s_pre (I' := lJ K q ([]) I) (fun _ _ z => z) ?_
      obtain ⟨z0, z1⟩ := sout_tt oA
      exact s_rtP (J := lJ K q ([]) I) (fun _ _ z => z.2) (q_ifF (p_test (p_neI (i := A.w.1) (j := 0) (by walk_at "ev") (by walk_at "ev"))) (by rw [decide_eq_true z0]; rfl) (q_ifT (t_or (p_test (p_ge (i := A.lo.1) (j := 0) (by walk_at "ev") (by walk_at "ev"))) fun _ => p_test (p_le (i := A.hi.1) (j := 0) (by walk_at "ev") (by walk_at "ev"))) z1 (p_ret e_non)))
    · omega
  have oA : A.out = false := Bool.eq_false_iff.mpr oA
  by_cases oB : B.out = true
  · rw [show (A.out || B.out) = true by rw [oA, oB]; rfl, if_pos rfl]
    refine s_stop (s_forZ3 (n := 2) (m := 1) (P := fun _ => [some (.d (bxd a)), some (.d (vcd u0 u1)), some (.d (bxd b)), some (.d (vcd v0 v1)), some (.r q), none, none, none, none, none, none, none, none, none]) (V := fun i => lJ K q (if i = 0 then [] else A.spans.map pr) I) (p_cons (p_call (R := REnds) (ds := [.d (bxd a)]) (p_cons (e_var rfl) a_nil) ⟨a, rfl, ok.a0.mono (by decide), ok.a1.mono (by decide), ok.a2.mono (by decide), ok.a3.mono (by decide), rfl⟩) (p_cons (p_call (R := REnds) (ds := [.d (bxd b)]) (p_cons (e_var rfl) a_nil) ⟨b, rfl, ok.b0.mono (by decide), ok.b1.mono (by decide), ok.b2.mono (by decide), ok.b3.mono (by decide), rfl⟩) (p_cons (p_call (R := RVec2 minusM) (ds := [.t [fr v0, fr v1], .t [fr u0, fr u1]]) (p_cons (e_var rfl) (p_cons (e_var rfl) a_nil)) (RVec2.mk ok.v0 ok.v1 ok.u0 ok.u1)) a_nil))) rfl rfl rfl rfl ⟨by decide, fun i x h hx' => ?_, .inr ⟨by decide, ⟨_, _, rfl⟩, fun x hx' => ?_⟩⟩)
    · obtain rfl : i = 0 := by omega
      rcases hzip _ _ hx' with ⟨_, rfl⟩ | ⟨c, _⟩
      · refine ⟨_, g_tup rfl (g_cons (g_tup rfl (g_cons g_name (g_cons g_name g_nil))) (g_cons (g_tup rfl (g_cons g_name (g_cons g_name g_nil))) (g_cons g_name g_nil))), ?_⟩
        refine q_asg (d := .d (fr A.lo)) (p_call (R := RPlus minusM) (ds := [.d (fr A.la), .d (fr (plusM A.lb A.sb))]) (by walk_at "ev") (RPlus.mk sA.la sA.hb)) ?_
        refine q_asg (d := .d (fr A.hi)) (p_call (R := RPlus minusM) (ds := [.d (fr (plusM A.la A.sa)), .d (fr A.lb)]) (by walk_at "ev") (RPlus.mk sA.ha sA.lb)) ?_
        refine s_is ?_ (show Out.nx _ (lJ K q ([] ++ A.spans.map pr) I) = _ from rfl)
        refine s_pre (I' := lJ K q ([]) I) (fun _ _ z => z) ?_
        refine s_lessN (ρ' := [some (.d (bxd a)), some (.d (vcd u0 u1)), some (.d (bxd b)), some (.d (vcd v0 v1)), some (.r q), some (.d (fr A.la)), some (.d (fr (plusM A.la A.sa))), some (.d (fr A.lb)), some (.d (fr (plusM A.lb A.sb))), some (.d (fr A.w)), some (.d (fr A.lo)), some (.d (fr A.hi)), none, none]) ⟨.inr rfl, .inr rfl, .inr rfl, .inr rfl, .inr rfl, .inl rfl, .inl rfl, .inl rfl, .inl rfl, .inl rfl, .inl rfl, .inl rfl, .inr rfl, .inr rfl, trivial⟩ ?_
        by_cases z0 : A.w.1 = 0
        · rw [sspans_no (a := A) z0, List.map_nil, List.append_nil]
          exact q_ifF (p_test (p_neI (i := A.w.1) (j := 0) (by walk_at "ev") (by walk_at "ev"))) (by rw [decide_eq_true z0]; rfl) (q_ifF (t_or (p_test (p_ge (i := A.lo.1) (j := 0) (by walk_at "ev") (by walk_at "ev"))) fun _ => p_test (p_le (i := A.hi.1) (j := 0) (by walk_at "ev") (by walk_at "ev"))) (sout_ff oA z0) s_next)
        · rw [sspans_yes (a := A) z0, List.map_singleton]
          refine q_ifT (p_test (p_neI (i := A.w.1) (j := 0) (by walk_at "ev") (by walk_at "ev"))) (by rw [decide_eq_false z0]; rfl) ?_
          exact s_app (e_callX (R := RPassing) (ds := [.d (fr A.lo), .d (fr A.hi), .d (fr A.w)]) (by walk_at "ev") ⟨_, _, _, rfl, sA.lo.mono (by decide), sA.hi.mono (by decide), sA.w.mono (by decide), z0, rfl⟩) rfl (by first | exact sspans_lt _ | decide) hq
      · omega
    · rcases hzip _ _ hx' with ⟨c, _⟩ | ⟨_, rfl⟩
      · omega
      · refine ⟨_, g_tup rfl (g_cons (g_tup rfl (g_cons g_name (g_cons g_name g_nil))) (g_cons (g_tup rfl (g_cons g_name (g_cons g_name g_nil))) (g_cons g_name g_nil))), ?_⟩
        refine q_asg (d := .d (fr B.lo)) (p_call (R := RPlus minusM) (ds := [.d (fr B.la), .d (fr (plusM B.lb B.sb))]) (by walk_at "ev") (RPlus.mk sB.la sB.hb)) ?_
        refine q_asg (d := .d (fr B.hi)) (p_call (R := RPlus minusM) (ds := [.d (fr (plusM B.la B.sa)), .d (fr B.lb)]) (by walk_at "ev") (RPlus.mk sB.ha sB.lb)) ?_
        refine s_pre (I' := lJ K q (A.spans.map pr) I) (fun _ _ z => z) ?_
        obtain ⟨z0, z1⟩ := sout_tt oB
        exact s_rtP (J := lJ K q (A.spans.map pr) I) (fun _ _ z => z.2) (q_ifF (p_test (p_neI (i := B.w.1) (j := 0) (by walk_at "ev") (by walk_at "ev"))) (by rw [decide_eq_true z0]; rfl) (q_ifT (t_or (p_test (p_ge (i := B.lo.1) (j := 0) (by walk_at "ev") (by walk_at "ev"))) fun _ => p_test (p_le (i := B.hi.1) (j := 0) (by walk_at "ev") (by walk_at "ev"))) z1 (p_ret e_non)))
  have oB : B.out = false := Bool.eq_false_iff.mpr oB
  rw [show (A.out || B.out) = false by rw [oA, oB]; rfl, if_neg Bool.false_ne_true]
  refine s_seq (s_forZ3 (n := 2) (m := 2) (P := fun _ => [some (.d (bxd a)), some (.d (vcd u0 u1)), some (.d (bxd b)), some (.d (vcd v0 v1)), some (.r q), none, none, none, none, none, none, none, none, none]) (V := fun i => lJ K q (if i = 0 then [] else if i = 1 then A.spans.map pr else A.spans.map pr ++ B.spans.map pr) I) (p_cons (p_call (R := REnds) (ds := [.d (bxd a)]) (p_cons (e_var rfl) a_nil) ⟨a, rfl, ok.a0.mono (by decide), ok.a1.mono (by decide), ok.a2.mono (by decide), ok.a3.mono (by decide), rfl⟩) (p_cons (p_call (R := REnds) (ds := [.d (bxd b)]) (p_cons (e_var rfl) a_nil) ⟨b, rfl, ok.b0.mono (by decide), ok.b1.mono (by decide), ok.b2.mono (by decide), ok.b3.mono (by decide), rfl⟩) (p_cons (p_call (R := RVec2 minusM) (ds := [.t [fr v0, fr v1], .t [fr u0, fr u1]]) (p_cons (e_var rfl) (p_cons (e_var rfl) a_nil)) (RVec2.mk ok.v0 ok.v1 ok.u0 ok.u1)) a_nil))) rfl rfl rfl rfl (Turns.all fun i x h hx' => ?_)) ?_
  · rcases hzip _ _ hx' with ⟨rfl, rfl⟩ | ⟨rfl, rfl⟩
    · refine ⟨_, g_tup rfl (g_cons (g_tup rfl (g_cons g_name (g_cons g_name g_nil))) (g_cons (g_tup rfl (g_cons g_name (g_cons g_name g_nil))) (g_cons g_name g_nil))), ?_⟩
      refine q_asg (d := .d (fr A.lo)) (p_call (R := RPlus minusM) (ds := [.d (fr A.la), .d (fr (plusM A.lb A.sb))]) (by walk_at "ev") (RPlus.mk sA.la sA.hb)) ?_
      refine q_asg (d := .d (fr A.hi)) (p_call (R := RPlus minusM) (ds := [.d (fr (plusM A.la A.sa)), .d (fr A.lb)]) (by walk_at "ev") (RPlus.mk sA.ha sA.lb)) ?_
      refine s_is ?_ (show Out.nx _ (lJ K q ([] ++ A.spans.map pr) I) = _ from rfl)
      refine s_pre (I' := lJ K q ([]) I) (fun _ _ z => z) ?_
      refine s_lessN (ρ' := [some (.d (bxd a)), some (.d (vcd u0 u1)), some (.d (bxd b)), some (.d (vcd v0 v1)), some (.r q), some (.d (fr A.la)), some (.d (fr (plusM A.la A.sa))), some (.d (fr A.lb)), some (.d (fr (plusM A.lb A.sb))), some (.d (fr A.w)), some (.d (fr A.lo)), some (.d (fr A.hi)), none, none]) ⟨.inr rfl, .inr rfl, .inr rfl, .inr rfl, .inr rfl, .inl rfl, .inl rfl, .inl rfl, .inl rfl, .inl rfl, .inl rfl, .inl rfl, .inr rfl, .inr rfl, trivial⟩ ?_
      by_cases z0 : A.w.1 = 0
      · rw [sspans_no (a := A) z0, List.map_nil, List.append_nil]
        exact q_ifF (p_test (p_neI (i := A.w.1) (j := 0) (by walk_at "ev") (by walk_at "ev"))) (by rw [decide_eq_true z0]; rfl) (q_ifF (t_or (p_test (p_ge (i := A.lo.1) (j := 0) (by walk_at "ev") (by walk_at "ev"))) fun _ => p_test (p_le (i := A.hi.1) (j := 0) (by walk_at "ev") (by walk_at "ev"))) (sout_ff oA z0) s_next)
      · rw [sspans_yes (a := A) z0, List.map_singleton]
        refine q_ifT (p_test (p_neI (i := A.w.1) (j := 0) (by walk_at "ev") (by walk_at "ev"))) (by rw [decide_eq_false z0]; rfl) ?_
        exact s_app (e_callX (R := RPassing) (ds := [.d (fr A.lo), .d (fr A.hi), .d (fr A.w)]) (by walk_at "ev") ⟨_, _, _, rfl, sA.lo.mono (by decide), sA.hi.mono (by decide), sA.w.mono (by decide), z0, rfl⟩) rfl (by first | exact sspans_lt _ | decide) hq
    · refine ⟨_, g_tup rfl (g_cons (g_tup rfl (g_cons g_name (g_cons g_name g_nil))) (g_cons (g_tup rfl (g_cons g_name (g_cons g_name g_nil))) (g_cons g_name g_nil))), ?_⟩
      refine q_asg (d := .d (fr B.lo)) (p_call (R := RPlus minusM) (ds := [.d (fr B.la), .d (fr (plusM B.lb B.sb))]) (by walk_at "ev") (RPlus.mk sB.la sB.hb)) ?_
      refine q_asg (d := .d (fr B.hi)) (p_call (R := RPlus minusM) (ds := [.d (fr (plusM B.la B.sa)), .d (fr B.lb)]) (by walk_at "ev") (RPlus.mk sB.ha sB.lb)) ?_
      refine s_is ?_ (show Out.nx _ (lJ K q (A.spans.map pr ++ B.spans.map pr) I) = _ from rfl)
      refine s_pre (I' := lJ K q (A.spans.map pr) I) (fun _ _ z => z) ?_
      refine s_lessN (ρ' := [some (.d (bxd a)), some (.d (vcd u0 u1)), some (.d (bxd b)), some (.d (vcd v0 v1)), some (.r q), some (.d (fr B.la)), some (.d (fr (plusM B.la B.sa))), some (.d (fr B.lb)), some (.d (fr (plusM B.lb B.sb))), some (.d (fr B.w)), some (.d (fr B.lo)), some (.d (fr B.hi)), none, none]) ⟨.inr rfl, .inr rfl, .inr rfl, .inr rfl, .inr rfl, .inl rfl, .inl rfl, .inl rfl, .inl rfl, .inl rfl, .inl rfl, .inl rfl, .inr rfl, .inr rfl, trivial⟩ ?_
      by_cases z0 : B.w.1 = 0
      · rw [sspans_no (a := B) z0, List.map_nil, List.append_nil]
        exact q_ifF (p_test (p_neI (i := B.w.1) (j := 0) (by walk_at "ev") (by walk_at "ev"))) (by rw [decide_eq_true z0]; rfl) (q_ifF (t_or (p_test (p_ge (i := B.lo.1) (j := 0) (by walk_at "ev") (by walk_at "ev"))) fun _ => p_test (p_le (i := B.hi.1) (j := 0) (by walk_at "ev") (by walk_at "ev"))) (sout_ff oB z0) s_next)
      · rw [sspans_yes (a := B) z0, List.map_singleton]
        refine q_ifT (p_test (p_neI (i := B.w.1) (j := 0) (by walk_at "ev") (by walk_at "ev"))) (by rw [decide_eq_false z0]; rfl) ?_
        exact s_app (e_callX (R := RPassing) (ds := [.d (fr B.lo), .d (fr B.hi), .d (fr B.w)]) (by walk_at "ev") ⟨_, _, _, rfl, sB.lo.mono (by decide), sB.hi.mono (by decide), sB.w.mono (by decide), z0, rfl⟩) rfl (by first | exact sspans_lt _ | decide) hq
  · refine s_pre (I' := lJ K q ((A.spans ++ B.spans).map pr) I) (fun G H z => by rw [List.map_append]; exact z) ?_
    have hsp : ∀ s ∈ A.spans ++ B.spans, PL.Ok 4000 s.1 ∧ PL.Ok 4000 s.2 := fun s hs => by
      rcases List.mem_append.mp hs with hs | hs
      · exact ⟨((sspans_sz sA) s hs).1.mono (by decide), ((sspans_sz sA) s hs).2.mono (by decide)⟩
      · exact ⟨((sspans_sz sB) s hs).1.mono (by decide), ((sspans_sz sB) s hs).2.mono (by decide)⟩
    generalize A.spans ++ B.spans = sp at *
    refine s_freeze (i := 4) rfl hq ?_
    walk_at "norm"
    refine s_seq (s_asgG (x := pr (fstM sp, lstM sp)) (p_call (R := RCommon) (ds := [.d (.list (sp.map pr))]) (p_cons (e_var rfl) a_nil) ⟨sp, rfl, hsp, rfl⟩) (g_tup rfl (g_cons g_name (g_cons g_name g_nil)))) ?_
    have o1 : PL.Ok 4000 (fstM sp) := fst_in (fun s hs => (hsp s hs).1)
    have o2 : PL.Ok 4000 (lstM sp) := lst_in (fun s hs => (hsp s hs).2)
    have e : decide (0 ≤ cmpM (fstM sp) (lstM sp)) = !less (fstM sp) (lstM sp) := by
      rw [less_cmp, ← decide_not, decide_eq_decide]
      omega
    unfold spanS
    by_cases c : less (fstM sp) (lstM sp) = true
    · rw [if_pos c]
      exact q_skip (p_test (p_ge (i := cmpM (fstM sp) (lstM sp)) (j := 0) (p_call (R := RCmp) (ds := [.d (fr (fstM sp)), .d (fr (lstM sp))]) (by walk_at "ev") ⟨_, _, rfl, o1, o2, rfl⟩) (by walk_at "ev"))) (by rw [e, c]; rfl) (p_ret (p_tup2 (by walk_at "ev")))
    · rw [if_neg c]
      exact s_stop (q_ifT (p_test (p_ge (i := cmpM (fstM sp) (lstM sp)) (j := 0) (p_call (R := RCmp) (ds := [.d (fr (fstM sp)), .d (fr (lstM sp))]) (by walk_at "ev") ⟨_, _, rfl, o1, o2, rfl⟩) (by walk_at "ev"))) (by rw [e, Bool.eq_false_iff.mpr c]; rfl) (p_ret e_non))
theorem fok_law_vector (Tp : Top K mg base) : FnOk P w K mg base CX0 4 Tp.f_law_vector Tp.d_law_vector ["d", "most"] (spW K RVec) := by
  have G_law_part := fok_law_part (P := P) (w := w) (base := base) Tp
  refine Tp.F_law_vector.ok sc_law_vector (fun vs H Q E h => len_W (fun _ _ _ _ ⟨_, e, _⟩ => by rw [e]; rfl) h) (fun cdv A outer s H vs Q E hr h => ?_)
  refine ⟨_, (pss_one (ps_ret (pe_tup (pa_cons (pe_call G_law_part (hr.mono (by decide)) (by rfl) Tp.g_law_part Tp.F_law_part.kp Tp.b_law_part .nil pass0 (pa_cons (pv 0) (pa_cons (pv 1) pa_nil))) (pa_cons (pe_call G_law_part (hr.mono (by decide)) (by rfl) Tp.g_law_part Tp.F_law_part.kp Tp.b_law_part .nil pass0 (pa_cons (pv 0) (pa_cons (pv 1) pa_nil))) pa_nil))))), body_W ?_ h⟩
  refine fun ds C d C' r p J hf => ?_
  obtain ⟨m, rfl, ok, hm, hz, rfl, rfl⟩ := r
  walk_at "norm"
  obtain ⟨o1, _⟩ := part_ok (C := C) (m := m) ok hm hz
  refine s_ret (e_tup (a_cons (e_draw (R := RPart) (ds := [.i m]) (C := C) (by walk_at "ev") ⟨_, rfl, ok, hm, hz, rfl, rfl⟩ hf) (a_cons (e_draw (R := RPart) (ds := [.i m]) (by walk_at "ev") ⟨_, rfl, o1, hm, hz, rfl, rfl⟩ hf) a_nil)) (.cons (.cons .nil)) (show 2 ≤ 100000 by decide))
theorem fok_law_high (Tp : Top K mg base) : FnOk P w K mg base CX0 4 Tp.f_law_high Tp.d_law_high ["box", "k"] (spP K RHigh) := by
  have G_law_plus := fok_law_plus (P := P) (w := w) (base := base) Tp
  refine Tp.F_law_high.ok sc_law_high (fun vs H Q E h => len_P (fun _ _ ⟨_, _, e, _⟩ => by rw [e]; rfl) h) (fun cdv A outer s H vs Q E hr h => ?_)
  refine ⟨_, (pss_one (ps_ret (pe_call G_law_plus (hr.mono (by decide)) (by rfl) Tp.g_law_plus Tp.F_law_plus.kp Tp.b_law_plus .nil pass0 (pa_cons (pe_ix (r := rIxT K) ix_tup (pe_ix (r := rIxT K) ix_tup (pv 0) pe_int (fun _ _ => rfl)) (pv 1) (fun _ _ => rfl)) (pa_cons (pe_ix (r := rIxT K) ix_tup (pe_ix (r := rIxT K) ix_tup (pv 0) pe_int (fun _ _ => rfl)) (pv 1) (fun _ _ => rfl)) pa_nil))))), body_P ?_ h⟩
  refine fun ds d r I => ?_
  obtain ⟨b, k, rfl, hk, k1, k2, k3, k4, rfl⟩ := r
  walk_at "norm"
  refine p_ret ?_
  rcases hk with rfl | rfl
  · exact e_is (p_call (R := RPlus lplus) (ds := [.d (fr b.p0), .d (fr b.s0)]) (p_cons (p_ixT (p_i0 (e_var rfl)) (e_var rfl) rfl) (p_cons (p_ixT (p_i1 (e_var rfl)) (e_var rfl) rfl) a_nil)) (RPlus.mk k1 k3)) (by rw [lplus_eq k1.nrm k3.nrm]; rfl)
  · exact e_is (p_call (R := RPlus lplus) (ds := [.d (fr b.p1), .d (fr b.s1)]) (p_cons (p_ixT (p_i0 (e_var rfl)) (e_var rfl) rfl) (p_cons (p_ixT (p_i1 (e_var rfl)) (e_var rfl) rfl) a_nil)) (RPlus.mk k2 k4)) (by rw [lplus_eq k2.nrm k4.nrm]; rfl)
theorem fok_law_put (Tp : Top K mg base) : FnOk P w K mg base CX0 4 Tp.f_law_put Tp.d_law_put ["a", "way", "t"] (spP K RPut) := by
  have G_law_plus := fok_law_plus (P := P) (w := w) (base := base) Tp
  have G_law_times := fok_law_times (P := P) (w := w) (base := base) Tp
  refine Tp.F_law_put.ok sc_law_put (fun vs H Q E h => len_P (fun _ _ ⟨_, _, _, _, e, _⟩ => by rw [e]; rfl) h) (fun cdv A outer s H vs Q E hr h => ?_)
  refine ⟨_, (pss_one (ps_ret (pe_tup (pa_cons (pe_tup (pa_cons (pe_call G_law_plus (hr.mono (by decide)) (by rfl) Tp.g_law_plus Tp.F_law_plus.kp Tp.b_law_plus .nil pass0 (pa_cons (pe_ix (r := rIxT K) ix_tup (pe_ix (r := rIxT K) ix_tup (pv 0) pe_int (fun _ _ => rfl)) pe_int (fun _ _ => rfl)) (pa_cons (pe_call G_law_times (hr.mono (by decide)) (by rfl) Tp.g_law_times Tp.F_law_times.kp Tp.b_law_times .nil pass0 (pa_cons (pe_ix (r := rIxT K) ix_tup (pv 1) pe_int (fun _ _ => rfl)) (pa_cons (pv 2) pa_nil))) pa_nil))) (pa_cons (pe_call G_law_plus (hr.mono (by decide)) (by rfl) Tp.g_law_plus Tp.F_law_plus.kp Tp.b_law_plus .nil pass0 (pa_cons (pe_ix (r := rIxT K) ix_tup (pe_ix (r := rIxT K) ix_tup (pv 0) pe_int (fun _ _ => rfl)) pe_int (fun _ _ => rfl)) (pa_cons (pe_call G_law_times (hr.mono (by decide)) (by rfl) Tp.g_law_times Tp.F_law_times.kp Tp.b_law_times .nil pass0 (pa_cons (pe_ix (r := rIxT K) ix_tup (pv 1) pe_int (fun _ _ => rfl)) (pa_cons (pv 2) pa_nil))) pa_nil))) pa_nil))) (pa_cons (pe_ix (r := rIxT K) ix_tup (pv 0) pe_int (fun _ _ => rfl)) pa_nil))))), body_P ?_ h⟩
  refine fun ds d r I => ?_
  obtain ⟨a, w0, w1, t, rfl, h1, h2, h3, h4, h5, rfl⟩ := r
  walk_at "norm"
  have m1 : PL.Ok 1200 (ltimes w0 t) := by rw [ltimes_eq h3.nrm h5.nrm]; exact (PL.ok_times h3 h5).mono (by decide)
  have m2 : PL.Ok 1200 (ltimes w1 t) := by rw [ltimes_eq h4.nrm h5.nrm]; exact (PL.ok_times h4 h5).mono (by decide)
  refine p_ret (p_tup2 (p_cons (p_tup2 (p_cons (p_call (R := RPlus lplus) (ds := [.d (fr a.p0), .d (fr (ltimes w0 t))]) (p_cons (p_ixT (ds := [fr a.p0, fr a.p1]) (i := 0) (p_i0 (e_var rfl)) e_int rfl) (p_cons (p_call (R := RPlus ltimes) (ds := [.d (fr w0), .d (fr t)]) (by walk_at "ev") (RPlus.mk h3 h5)) a_nil)) (RPlus.mk h1 m1)) (p_cons (p_call (R := RPlus lplus) (ds := [.d (fr a.p1), .d (fr (ltimes w1 t))]) (p_cons (p_ixT (ds := [fr a.p0, fr a.p1]) (i := 1) (p_i0 (e_var rfl)) e_int rfl) (p_cons (p_call (R := RPlus ltimes) (ds := [.d (fr w1), .d (fr t)]) (by walk_at "ev") (RPlus.mk h4 h5)) a_nil)) (RPlus.mk h2 m2)) a_nil))) (p_cons (p_i1 (e_var rfl)) a_nil)))
theorem fok_first_contact (Tp : Top K mg base) : FnOk P w K mg base (L2.CX P w) 5 Tp.f_first_contact Tp.d_first_contact ["a", "move_a", "b", "move_b"] (spX K (RFirst Tp.c_BoxError)) := by
  have G_overlap_times := fok_overlap_times (P := P) (w := w) (base := base) Tp
  refine Tp.F_first_contact.okX sc_first_contact (fun vs H Q E h => len_X (fun _ _ ⟨_, _, _, _, _, _, e, _⟩ => by rw [e]; rfl) h) (fun cdv A outer s H vs Q E hr h => ?_)
  refine ⟨_, (pss_cons (ps_set (i := 4) sc_first_contact.nd rfl (.inl rfl) (pe_call G_overlap_times (hr.mono (by decide)) (by rfl) Tp.g_overlap_times Tp.F_overlap_times.kp Tp.b_overlap_times .nil (passes_call (takes_of rfl rfl rfl rfl) (fun _ _ _ _ z => z)) (pa_cons (pv 0) (pa_cons (pv 1) (pa_cons (pv 2) (pa_cons (pv 3) pa_nil))))))
      (pss_cons (ps_if (pt_cmpR op_isN (pv 4) pe_non (nomark _)) (pss_one (ps_ret pe_non)) pss_nil)
      (pss_one (ps_ret (pe_ix (r := rIxT K) ix_tup (pv 4) pe_int (fun _ _ => rfl)))))), body_X ?_ h⟩
  refine fun ds r hr I hx => ?_
  obtain ⟨a, b, u0, u1, v0, v1, rfl, ok, hr⟩ := hr
  walk_at "norm"
  obtain ⟨h0, h1, rfl⟩ := hr
  refine q_asg (d := .d (optD (sweepM (sx0 a b u0 v0) (sx1 a b u1 v1)))) (e_callX (R := RSweep Tp.c_BoxError) (ds := [.d (bxd a), .d (vcd u0 u1), .d (bxd b), .d (vcd v0 v1)]) (by walk_at "ev") ⟨a, b, u0, u1, v0, v1, rfl, ok, .inl ⟨h0, h1, rfl⟩⟩) ?_
  cases (sweepM (sx0 a b u0 v0) (sx1 a b u1 v1)) with
  | none => exact s_stop (q_ifT (p_test (e_isN (x := .none) (e_var rfl) e_non)) rfl (p_ret e_non))
  | some s => exact q_skip (p_test (e_isN (x := pr s) (e_var rfl) e_non)) rfl (p_ret (p_i0 (e_var rfl)))
theorem fok_law_gap (Tp : Top K mg base) : FnOk P w K mg base CX0 5 Tp.f_law_gap Tp.d_law_gap ["a", "b", "k"] (spP K RGap) := by
  have G_law_max := fok_law_max (P := P) (w := w) (base := base) Tp
  have G_law_minus := fok_law_minus (P := P) (w := w) (base := base) Tp
  have G_law_high := fok_law_high (P := P) (w := w) (base := base) Tp
  refine Tp.F_law_gap.ok sc_law_gap (fun vs H Q E h => len_P (fun _ _ ⟨_, _, _, e, _⟩ => by rw [e]; rfl) h) (fun cdv A outer s H vs Q E hr h => ?_)
  refine ⟨_, (pss_one (ps_ret (pe_call G_law_max (hr.mono (by decide)) (by rfl) Tp.g_law_max Tp.F_law_max.kp Tp.b_law_max .nil pass0 (pa_cons (pe_call G_law_minus (hr.mono (by decide)) (by rfl) Tp.g_law_minus Tp.F_law_minus.kp Tp.b_law_minus .nil pass0 (pa_cons (pe_ix (r := rIxT K) ix_tup (pe_ix (r := rIxT K) ix_tup (pv 1) pe_int (fun _ _ => rfl)) (pv 2) (fun _ _ => rfl)) (pa_cons (pe_call G_law_high (hr.mono (by decide)) (by rfl) Tp.g_law_high Tp.F_law_high.kp Tp.b_law_high .nil pass0 (pa_cons (pv 0) (pa_cons (pv 2) pa_nil))) pa_nil))) (pa_cons (pe_call G_law_minus (hr.mono (by decide)) (by rfl) Tp.g_law_minus Tp.F_law_minus.kp Tp.b_law_minus .nil pass0 (pa_cons (pe_ix (r := rIxT K) ix_tup (pe_ix (r := rIxT K) ix_tup (pv 0) pe_int (fun _ _ => rfl)) (pv 2) (fun _ _ => rfl)) (pa_cons (pe_call G_law_high (hr.mono (by decide)) (by rfl) Tp.g_law_high Tp.F_law_high.kp Tp.b_law_high .nil pass0 (pa_cons (pv 1) (pa_cons (pv 2) pa_nil))) pa_nil))) pa_nil))))), body_P ?_ h⟩
  refine fun ds d r I => ?_
  obtain ⟨a, b, k, rfl, hk, ha, hb, rfl⟩ := r
  walk_at "norm"
  rcases hk with rfl | rfl
  · have n1 := PL.ok_plus ha.p0 ha.s0
    have n2 := PL.ok_plus hb.p0 hb.s0
    have n3 := PL.ok_minus hb.p0 n1
    have n4 := PL.ok_minus ha.p0 n2
    unfold gapM
    rw [lplus_eq ha.p0.nrm ha.s0.nrm, lplus_eq hb.p0.nrm hb.s0.nrm, lminus_eq hb.p0.nrm n1.nrm, lminus_eq ha.p0.nrm n2.nrm]
    refine p_ret (p_call (R := RMax) (ds := [.d (fr (minusM b.p0 (plusM a.p0 a.s0))), .d (fr (minusM a.p0 (plusM b.p0 b.s0)))]) (p_cons (e_is (p_call (R := RPlus lminus) (ds := [.d (fr b.p0), .d (fr (plusM a.p0 a.s0))]) (p_cons (p_ixT (ds := [fr b.p0, fr b.p1]) (i := 0) (p_i0 (e_var rfl)) (e_var rfl) rfl) (p_cons (p_call (R := RHigh) (ds := [.d (bxd a), .i 0]) (by walk_at "ev") ⟨a, 0, rfl, .inl rfl, ha.p0.mono (by decide), ha.p1.mono (by decide), ha.s0.mono (by decide), ha.s1.mono (by decide), rfl⟩) a_nil)) (RPlus.mk hb.p0 n1)) (by rw [lminus_eq hb.p0.nrm n1.nrm])) (p_cons (e_is (p_call (R := RPlus lminus) (ds := [.d (fr a.p0), .d (fr (plusM b.p0 b.s0))]) (p_cons (p_ixT (ds := [fr a.p0, fr a.p1]) (i := 0) (p_i0 (e_var rfl)) (e_var rfl) rfl) (p_cons (p_call (R := RHigh) (ds := [.d (bxd b), .i 0]) (by walk_at "ev") ⟨b, 0, rfl, .inl rfl, hb.p0.mono (by decide), hb.p1.mono (by decide), hb.s0.mono (by decide), hb.s1.mono (by decide), rfl⟩) a_nil)) (RPlus.mk ha.p0 n2)) (by rw [lminus_eq ha.p0.nrm n2.nrm])) a_nil)) ⟨_, _, rfl, n3.mono (by decide), n4.mono (by decide), rfl⟩)
  · have n1 := PL.ok_plus ha.p1 ha.s1
    have n2 := PL.ok_plus hb.p1 hb.s1
    have n3 := PL.ok_minus hb.p1 n1
    have n4 := PL.ok_minus ha.p1 n2
    unfold gapM
    rw [lplus_eq ha.p1.nrm ha.s1.nrm, lplus_eq hb.p1.nrm hb.s1.nrm, lminus_eq hb.p1.nrm n1.nrm, lminus_eq ha.p1.nrm n2.nrm]
    refine p_ret (p_call (R := RMax) (ds := [.d (fr (minusM b.p1 (plusM a.p1 a.s1))), .d (fr (minusM a.p1 (plusM b.p1 b.s1)))]) (p_cons (e_is (p_call (R := RPlus lminus) (ds := [.d (fr b.p1), .d (fr (plusM a.p1 a.s1))]) (p_cons (p_ixT (ds := [fr b.p0, fr b.p1]) (i := 1) (p_i0 (e_var rfl)) (e_var rfl) rfl) (p_cons (p_call (R := RHigh) (ds := [.d (bxd a), .i 1]) (by walk_at "ev") ⟨a, 1, rfl, .inr rfl, ha.p0.mono (by decide), ha.p1.mono (by decide), ha.s0.mono (by decide), ha.s1.mono (by decide), rfl⟩) a_nil)) (RPlus.mk hb.p1 n1)) (by rw [lminus_eq hb.p1.nrm n1.nrm])) (p_cons (e_is (p_call (R := RPlus lminus) (ds := [.d (fr a.p1), .d (fr (plusM b.p1 b.s1))]) (p_cons (p_ixT (ds := [fr a.p0, fr a.p1]) (i := 1) (p_i0 (e_var rfl)) (e_var rfl) rfl) (p_cons (p_call (R := RHigh) (ds := [.d (bxd b), .i 1]) (by walk_at "ev") ⟨b, 1, rfl, .inr rfl, hb.p0.mono (by decide), hb.p1.mono (by decide), hb.s0.mono (by decide), hb.s1.mono (by decide), rfl⟩) a_nil)) (RPlus.mk ha.p1 n2)) (by rw [lminus_eq ha.p1.nrm n2.nrm])) a_nil)) ⟨_, _, rfl, n3.mono (by decide), n4.mono (by decide), rfl⟩)
theorem fok_law_beside (Tp : Top K mg base) : FnOk P w K mg base CX0 5 Tp.f_law_beside Tp.d_law_beside ["d", "box", "size"] (spW K RBeside) := by
  have G_law_take := fok_law_take (P := P) (w := w) (base := base) Tp
  have G_law_plus := fok_law_plus (P := P) (w := w) (base := base) Tp
  have G_law_high := fok_law_high (P := P) (w := w) (base := base) Tp
  have G_law_minus := fok_law_minus (P := P) (w := w) (base := base) Tp
  have G_law_part := fok_law_part (P := P) (w := w) (base := base) Tp
  refine Tp.F_law_beside.ok sc_law_beside (fun vs H Q E h => len_W (fun _ _ _ _ ⟨_, _, _, e, _⟩ => by rw [e]; rfl) h) (fun cdv A outer s H vs Q E hr h => ?_)
  refine ⟨_, (pss_cons (ps_set (i := 3) sc_law_beside.nd rfl (.inl rfl) (pe_call G_law_take (hr.mono (by decide)) (by rfl) Tp.g_law_take Tp.F_law_take.kp Tp.b_law_take .nil pass0 (pa_cons (pv 0) (pa_cons pe_int pa_nil))))
      (pss_cons (ps_set (i := 4) sc_law_beside.nd rfl (.inl rfl) (pe_lst (pa_cons (pe_call G_law_plus (hr.mono (by decide)) (by rfl) Tp.g_law_plus Tp.F_law_plus.kp Tp.b_law_plus .nil pass0 (pa_cons (pe_ix (r := rIxT K) ix_tup (pe_ix (r := rIxT K) ix_tup (pv 1) pe_int (fun _ _ => rfl)) pe_int (fun _ _ => rfl)) (pa_cons (pe_call G_law_part (hr.mono (by decide)) (by rfl) Tp.g_law_part Tp.F_law_part.kp Tp.b_law_part .nil pass0 (pa_cons (pv 0) (pa_cons pe_int pa_nil))) pa_nil))) (pa_cons (pe_call G_law_plus (hr.mono (by decide)) (by rfl) Tp.g_law_plus Tp.F_law_plus.kp Tp.b_law_plus .nil pass0 (pa_cons (pe_ix (r := rIxT K) ix_tup (pe_ix (r := rIxT K) ix_tup (pv 1) pe_int (fun _ _ => rfl)) pe_int (fun _ _ => rfl)) (pa_cons (pe_call G_law_part (hr.mono (by decide)) (by rfl) Tp.g_law_part Tp.F_law_part.kp Tp.b_law_part .nil pass0 (pa_cons (pv 0) (pa_cons pe_int pa_nil))) pa_nil))) pa_nil))))
      (pss_cons (ps_asg (pe_ifExp (pt_cmpR op_eq (pe_call G_law_take (hr.mono (by decide)) (by rfl) Tp.g_law_take Tp.F_law_take.kp Tp.b_law_take .nil pass0 (pa_cons (pv 0) (pa_cons pe_int pa_nil))) pe_int (nomark _)) (pe_call G_law_high (hr.mono (by decide)) (by rfl) Tp.g_law_high Tp.F_law_high.kp Tp.b_law_high .nil pass0 (pa_cons (pv 1) (pa_cons (pv 3) pa_nil))) (pe_call G_law_minus (hr.mono (by decide)) (by rfl) Tp.g_law_minus Tp.F_law_minus.kp Tp.b_law_minus .nil pass0 (pa_cons (pe_ix (r := rIxT K) ix_tup (pe_ix (r := rIxT K) ix_tup (pv 1) pe_int (fun _ _ => rfl)) (pv 3) (fun _ _ => rfl)) (pa_cons (pe_ix (r := rIxT K) ix_tup (pv 2) (pv 3) (fun _ _ => rfl)) pa_nil)))) (pg_sub (pv 4) (pv 3) set_list))
      (pss_cons (ps_if (pt_cmpR op_eq (pe_call G_law_take (hr.mono (by decide)) (by rfl) Tp.g_law_take Tp.F_law_take.kp Tp.b_law_take .nil pass0 (pa_cons (pv 0) (pa_cons pe_int pa_nil))) pe_int (nomark _)) (pss_one (ps_asg (pe_ix (r := rIxT K) ix_tup (pe_ix (r := rIxT K) ix_tup (pv 1) pe_int (fun _ _ => rfl)) (pe_op op_sub pe_int (pv 3)) (fun _ _ => rfl)) (pg_sub (pv 4) (pe_op op_sub pe_int (pv 3)) set_list))) pss_nil)
      (pss_one (ps_ret (pe_tup (pa_cons (pe_ix (r := rIxL K) ix_list (pv 4) pe_int (fun _ _ => rfl)) (pa_cons (pe_ix (r := rIxL K) ix_list (pv 4) pe_int (fun _ _ => rfl)) pa_nil))))))))), body_W ?_ h⟩
  refine fun ds C d C' r p J hf => ?_
  obtain ⟨b, s0, s1, rfl, ok, hb, hs0, hs1, rfl, rfl⟩ := r
  walk_at "norm"
  have z9 : ∀ m : Int, m.natAbs < 2 ^ 4 → m.natAbs < 2 ^ 7000 := fun m h => sz_le h (by decide)
  have z9 : ∀ m : Int, m.natAbs < 2 ^ 4 → m.natAbs < 2 ^ 8500 := fun m h => sz_le h (by decide)
  obtain ⟨o1, k1, k2⟩ := take_ok (C := C) (m := 2) ok (by decide)
  obtain ⟨o2, px⟩ := part_ok (C := (take C 2).2) (m := 2) (n := 2) o1 (by decide) (by decide)
  obtain ⟨o3, py⟩ := part_ok (C := (partM (take C 2).2 2).2) (m := 2) (n := 2) o2 (by decide) (by decide)
  obtain ⟨o4, u1, u2⟩ := take_ok (C := (partM (partM (take C 2).2 2).2 2).2) (m := 2) o3 (by decide)
  refine s_seq (s_asg (e_draw (R := RTake) (ds := [.i 2]) (C := C) (by walk_at "ev") ⟨_, rfl, ok, by decide, z9 _ (by decide), rfl, rfl⟩ hf)) ?_
  refine s_newLA (ds := [.d (fr (lplus b.p0 (partM (take C 2).2 2).1)), .d (fr (lplus b.p1 (partM (partM (take C 2).2 2).2 2).1))]) (xs := [fr (lplus b.p0 (partM (take C 2).2 2).1), fr (lplus b.p1 (partM (partM (take C 2).2 2).2 2).1)]) (J := dJ K p (partM (partM (take C 2).2 2).2 2).2 J) (a_cons (e_call (R := RPlus lplus) (a_cons (p_ixT (ds := [fr b.p0, fr b.p1]) (i := 0) (p_i0 (e_var rfl)) e_int rfl) (a_cons (e_draw (R := RPart) (ds := [.i 2]) (by walk_at "ev") ⟨_, rfl, o1, by decide, sz_le (m := 3) (by decide) (by decide), rfl, rfl⟩ hf) a_nil)) (RPlus.mk hb.p0 px)) (a_cons (e_call (R := RPlus lplus) (a_cons (p_ixT (ds := [fr b.p0, fr b.p1]) (i := 1) (p_i0 (e_var rfl)) e_int rfl) (a_cons (e_draw (R := RPart) (ds := [.i 2]) (by walk_at "ev") ⟨_, rfl, o2, by decide, sz_le (m := 3) (by decide) (by decide), rfl, rfl⟩ hf) a_nil)) (RPlus.mk hb.p1 py)) a_nil)) (.cons (.cons .nil)) (show 2 ≤ 100000 by decide) fun q hq => ?_
  have hpq : p ≠ q := fun z => hq (.inl z.symm)
  have hqJ : ¬ J.foot q := fun z => hq (.inr z)
  have hq' : ∀ C2, ¬ (dJ K p C2 J).foot q := fun C2 z => by
    rcases z with z | z
    · exact hpq z.symm
    · exact hqJ z
  have hfq : ∀ ds, ¬ (lJ K q ds J).foot p := fun ds z => by
    rcases z with z | z
    · exact hpq z
    · exact hf z
  have hq' := hq' C
  refine s_pre (I' := dJ K p (partM (partM (take C 2).2 2).2 2).2 (lJ K q [fr (lplus b.p0 (partM (take C 2).2 2).1), fr (lplus b.p1 (partM (partM (take C 2).2 2).2 2).1)] J)) (fun _ _ z => ⟨z.2.1, z.1, z.2.2⟩) ?_
  have hk : (take C 2).1 = 0 ∨ (take C 2).1 = 1 := by omega
  rcases hk with k0 | k0 <;> rw [k0]
  · have nk : Int.toNat 0 = 0 := rfl
    let v : F := if (take (partM (partM (take C 2).2 2).2 2).2 2).1 = 1 then plusM b.p0 b.s0 else lminus b.p0 s0
    refine s_seq (J := lJ K q ([fr (lplus b.p0 (partM (take C 2).2 2).1), fr (lplus b.p1 (partM (partM (take C 2).2 2).2 2).1)].set 0 (fr v)) (dJ K p (take (partM (partM (take C 2).2 2).2 2).2 2).2 J)) (s_setL (j := 0) ?_ rfl (e_var rfl) (show 0 < 2 by decide) hq') ?_
    · by_cases c : (take (partM (partM (take C 2).2 2).2 2).2 2).1 = 1
      · rw [show v = plusM b.p0 b.s0 from if_pos c]
        exact e_ifT (t_is (t_test (e_eqI (i := (take (partM (partM (take C 2).2 2).2 2).2 2).1) (j := 1) (e_draw (R := RTake) (ds := [.i 2]) (by walk_at "ev") ⟨_, rfl, o3, by decide, z9 _ (by decide), rfl, rfl⟩ (hfq _)) e_int)) (decide_eq_true c)) (e_post (J := dJ K p (take (partM (partM (take C 2).2 2).2 2).2 2).2 (lJ K q [fr (lplus b.p0 (partM (take C 2).2 2).1), fr (lplus b.p1 (partM (partM (take C 2).2 2).2 2).1)] J)) (fun _ _ z => ⟨z.2.1, z.1, z.2.2⟩) (p_call (R := RHigh) (ds := [.d (bxd b), .i 0]) (by walk_at "ev") ⟨b, 0, rfl, .inl rfl, hb.p0.mono (by decide), hb.p1.mono (by decide), hb.s0.mono (by decide), hb.s1.mono (by decide), rfl⟩))
      · rw [show v = lminus b.p0 s0 from if_neg c]
        exact e_ifF (t_is (t_test (e_eqI (i := (take (partM (partM (take C 2).2 2).2 2).2 2).1) (j := 1) (e_draw (R := RTake) (ds := [.i 2]) (by walk_at "ev") ⟨_, rfl, o3, by decide, z9 _ (by decide), rfl, rfl⟩ (hfq _)) e_int)) (decide_eq_false c)) (e_post (J := dJ K p (take (partM (partM (take C 2).2 2).2 2).2 2).2 (lJ K q [fr (lplus b.p0 (partM (take C 2).2 2).1), fr (lplus b.p1 (partM (partM (take C 2).2 2).2 2).1)] J)) (fun _ _ z => ⟨z.2.1, z.1, z.2.2⟩) (p_call (R := RPlus lminus) (ds := [.d (fr b.p0), .d (fr s0)]) (p_cons (p_ixT (ds := [fr b.p0, fr b.p1]) (i := 0) (p_i0 (e_var rfl)) (e_var rfl) rfl) (p_cons (p_ixT (ds := [fr s0, fr s1]) (i := 0) (e_var rfl) (e_var rfl) rfl) a_nil)) (RPlus.mk hb.p0 hs0)))
    have ev_ : besideM C b s0 s1 = ((v, if (take (take (partM (partM (take C 2).2 2).2 2).2 2).2 4).1 = 1 then b.p1 else lplus b.p1 (partM (partM (take C 2).2 2).2 2).1), (take (take (partM (partM (take C 2).2 2).2 2).2 2).2 4).2) := by
      unfold besideM
      simp only [k0, if_true, if_false, v]
    rw [ev_]
    generalize v = vv at *
    generalize (partM (take C 2).2 2).1 = x at *
    generalize (partM (partM (take C 2).2 2).2 2).1 = y at *
    generalize (take (partM (partM (take C 2).2 2).2 2).2 2).2 = C4 at *
    refine s_pre (I' := dJ K p C4 (lJ K q [fr vv, fr (lplus b.p1 y)] J)) (fun _ _ z => ⟨z.2.1, z.1, z.2.2⟩) ?_
    have oc : DOk C4 := o4
    by_cases c : (take C4 4).1 = 1
    · rw [if_pos c]
      refine s_seq (J := lJ K q [fr vv, fr b.p1] (dJ K p (take C4 4).2 J)) (s_ifT (t_is (t_test (e_eqI (i := (take C4 4).1) (j := 1) (e_draw (R := RTake) (ds := [.i 4]) (by walk_at "ev") ⟨_, rfl, oc, by decide, z9 _ (by decide), rfl, rfl⟩ (hfq _)) e_int)) (decide_eq_true c)) (s_pre (I' := lJ K q [fr vv, fr (lplus b.p1 y)] (dJ K p (take C4 4).2 J)) (fun _ _ z => ⟨z.2.1, z.1, z.2.2⟩) (s_setL (j := 1) (p_ixT (ds := [fr b.p0, fr b.p1]) (i := 1) (p_i0 (e_var rfl)) (e_is (p_sub (i := 1) (j := 0) e_int (e_var rfl)) rfl) rfl) rfl (e_is (p_sub (i := 1) (j := 0) e_int (e_var rfl)) rfl) (show 1 < 2 by decide) hq'))) ?_
      refine s_freeze (i := 4) rfl hq' (s_ret (p_tup2 (p_cons (p_ixL (i := 0) (e_var rfl) e_int rfl) (p_cons (p_ixL (i := 1) (e_var rfl) e_int rfl) a_nil))))
    · rw [if_neg c]
      refine s_seq (J := lJ K q [fr vv, fr (lplus b.p1 y)] (dJ K p (take C4 4).2 J)) (s_ifF (t_is (t_test (e_eqI (i := (take C4 4).1) (j := 1) (e_draw (R := RTake) (ds := [.i 4]) (by walk_at "ev") ⟨_, rfl, oc, by decide, z9 _ (by decide), rfl, rfl⟩ (hfq _)) e_int)) (decide_eq_false c)) (s_post (J := dJ K p (take C4 4).2 (lJ K q [fr vv, fr (lplus b.p1 y)] J)) (fun _ _ z => ⟨z.2.1, z.1, z.2.2⟩) s_next)) ?_
      refine s_freeze (i := 4) rfl hq' (s_ret (p_tup2 (p_cons (p_ixL (i := 0) (e_var rfl) e_int rfl) (p_cons (p_ixL (i := 1) (e_var rfl) e_int rfl) a_nil))))
  · have nk : Int.toNat 0 = 0 := rfl
    let v : F := if (take (partM (partM (take C 2).2 2).2 2).2 2).1 = 1 then plusM b.p1 b.s1 else lminus b.p1 s1
    refine s_seq (J := lJ K q ([fr (lplus b.p0 (partM (take C 2).2 2).1), fr (lplus b.p1 (partM (partM (take C 2).2 2).2 2).1)].set 1 (fr v)) (dJ K p (take (partM (partM (take C 2).2 2).2 2).2 2).2 J)) (s_setL (j := 1) ?_ rfl (e_var rfl) (show 1 < 2 by decide) hq') ?_
    · by_cases c : (take (partM (partM (take C 2).2 2).2 2).2 2).1 = 1
      · rw [show v = plusM b.p1 b.s1 from if_pos c]
        exact e_ifT (t_is (t_test (e_eqI (i := (take (partM (partM (take C 2).2 2).2 2).2 2).1) (j := 1) (e_draw (R := RTake) (ds := [.i 2]) (by walk_at "ev") ⟨_, rfl, o3, by decide, z9 _ (by decide), rfl, rfl⟩ (hfq _)) e_int)) (decide_eq_true c)) (e_post (J := dJ K p (take (partM (partM (take C 2).2 2).2 2).2 2).2 (lJ K q [fr (lplus b.p0 (partM (take C 2).2 2).1), fr (lplus b.p1 (partM (partM (take C 2).2 2).2 2).1)] J)) (fun _ _ z => ⟨z.2.1, z.1, z.2.2⟩) (p_call (R := RHigh) (ds := [.d (bxd b), .i 1]) (by walk_at "ev") ⟨b, 1, rfl, .inr rfl, hb.p0.mono (by decide), hb.p1.mono (by decide), hb.s0.mono (by decide), hb.s1.mono (by decide), rfl⟩))
      · rw [show v = lminus b.p1 s1 from if_neg c]
        exact e_ifF (t_is (t_test (e_eqI (i := (take (partM (partM (take C 2).2 2).2 2).2 2).1) (j := 1) (e_draw (R := RTake) (ds := [.i 2]) (by walk_at "ev") ⟨_, rfl, o3, by decide, z9 _ (by decide), rfl, rfl⟩ (hfq _)) e_int)) (decide_eq_false c)) (e_post (J := dJ K p (take (partM (partM (take C 2).2 2).2 2).2 2).2 (lJ K q [fr (lplus b.p0 (partM (take C 2).2 2).1), fr (lplus b.p1 (partM (partM (take C 2).2 2).2 2).1)] J)) (fun _ _ z => ⟨z.2.1, z.1, z.2.2⟩) (p_call (R := RPlus lminus) (ds := [.d (fr b.p1), .d (fr s1)]) (p_cons (p_ixT (ds := [fr b.p0, fr b.p1]) (i := 1) (p_i0 (e_var rfl)) (e_var rfl) rfl) (p_cons (p_ixT (ds := [fr s0, fr s1]) (i := 1) (e_var rfl) (e_var rfl) rfl) a_nil)) (RPlus.mk hb.p1 hs1)))
    have ev_ : besideM C b s0 s1 = ((if (take (take (partM (partM (take C 2).2 2).2 2).2 2).2 4).1 = 1 then b.p0 else lplus b.p0 (partM (take C 2).2 2).1, v), (take (take (partM (partM (take C 2).2 2).2 2).2 2).2 4).2) := by
      unfold besideM
      simp only [k0, if_true, if_false, Int.one_ne_zero, v]
    rw [ev_]
    generalize v = vv at *
    generalize (partM (take C 2).2 2).1 = x at *
    generalize (partM (partM (take C 2).2 2).2 2).1 = y at *
    generalize (take (partM (partM (take C 2).2 2).2 2).2 2).2 = C4 at *
    refine s_pre (I' := dJ K p C4 (lJ K q [fr (lplus b.p0 x), fr vv] J)) (fun _ _ z => ⟨z.2.1, z.1, z.2.2⟩) ?_
    have oc : DOk C4 := o4
    by_cases c : (take C4 4).1 = 1
    · rw [if_pos c]
      refine s_seq (J := lJ K q [fr b.p0, fr vv] (dJ K p (take C4 4).2 J)) (s_ifT (t_is (t_test (e_eqI (i := (take C4 4).1) (j := 1) (e_draw (R := RTake) (ds := [.i 4]) (by walk_at "ev") ⟨_, rfl, oc, by decide, z9 _ (by decide), rfl, rfl⟩ (hfq _)) e_int)) (decide_eq_true c)) (s_pre (I' := lJ K q [fr (lplus b.p0 x), fr vv] (dJ K p (take C4 4).2 J)) (fun _ _ z => ⟨z.2.1, z.1, z.2.2⟩) (s_setL (j := 0) (p_ixT (ds := [fr b.p0, fr b.p1]) (i := 0) (p_i0 (e_var rfl)) (e_is (p_sub (i := 1) (j := 1) e_int (e_var rfl)) rfl) rfl) rfl (e_is (p_sub (i := 1) (j := 1) e_int (e_var rfl)) rfl) (show 0 < 2 by decide) hq'))) ?_
      refine s_freeze (i := 4) rfl hq' (s_ret (p_tup2 (p_cons (p_ixL (i := 0) (e_var rfl) e_int rfl) (p_cons (p_ixL (i := 1) (e_var rfl) e_int rfl) a_nil))))
    · rw [if_neg c]
      refine s_seq (J := lJ K q [fr (lplus b.p0 x), fr vv] (dJ K p (take C4 4).2 J)) (s_ifF (t_is (t_test (e_eqI (i := (take C4 4).1) (j := 1) (e_draw (R := RTake) (ds := [.i 4]) (by walk_at "ev") ⟨_, rfl, oc, by decide, z9 _ (by decide), rfl, rfl⟩ (hfq _)) e_int)) (decide_eq_false c)) (s_post (J := dJ K p (take C4 4).2 (lJ K q [fr (lplus b.p0 x), fr vv] J)) (fun _ _ z => ⟨z.2.1, z.1, z.2.2⟩) s_next)) ?_
      refine s_freeze (i := 4) rfl hq' (s_ret (p_tup2 (p_cons (p_ixL (i := 0) (e_var rfl) e_int rfl) (p_cons (p_ixL (i := 1) (e_var rfl) e_int rfl) a_nil))))
theorem fok_law_moments (Tp : Top K mg base) : FnOk P w K mg base CX0 5 Tp.f_law_moments Tp.d_law_moments ["a", "way_a", "b", "way_b"] (spP K RMoms) := by
  have G_law_sorted := fok_law_sorted (P := P) (w := w) (base := base) Tp
  have G_law_minus := fok_law_minus (P := P) (w := w) (base := base) Tp
  have G_law_high := fok_law_high (P := P) (w := w) (base := base) Tp
  have G_law_f := fok_law_f (P := P) (w := w) (base := base) Tp
  have G_law_less := fok_law_less (P := P) (w := w) (base := base) Tp
  refine Tp.F_law_moments.ok sc_law_moments (fun vs H Q E h => len_P (fun _ _ ⟨_, _, _, _, _, _, e, _⟩ => by rw [e]; rfl) h) (fun cdv A outer s H vs Q E hr h => ?_)
  refine ⟨_, (pss_cons (ps_set (i := 4) sc_law_moments.nd rfl (.inl rfl) (pe_lst (pa_cons (pe_tup (pa_cons pe_int (pa_cons pe_int pa_nil))) (pa_cons (pe_tup (pa_cons pe_int (pa_cons pe_int pa_nil))) pa_nil))))
      (pss_cons (ps_for PassesOwn.never rfl (pi_tup (pe_tup (pa_cons pe_int (pa_cons pe_int pa_nil)))) (pg_name (i := 5) sc_law_moments.nd rfl (.inl rfl)) (pss_cons (ps_set (i := 6) sc_law_moments.nd rfl (.inl rfl) (pe_call G_law_minus (hr.mono (by decide)) (by rfl) Tp.g_law_minus Tp.F_law_minus.kp Tp.b_law_minus .nil pass0 (pa_cons (pe_ix (r := rIxT K) ix_tup (pv 3) (pv 5) (fun _ _ => rfl)) (pa_cons (pe_ix (r := rIxT K) ix_tup (pv 1) (pv 5) (fun _ _ => rfl)) pa_nil))))
      (pss_one (ps_for PassesOwn.never rfl (pi_tup (pe_tup (pa_cons (pe_call G_law_minus (hr.mono (by decide)) (by rfl) Tp.g_law_minus Tp.F_law_minus.kp Tp.b_law_minus .nil pass0 (pa_cons (pe_call G_law_high (hr.mono (by decide)) (by rfl) Tp.g_law_high Tp.F_law_high.kp Tp.b_law_high .nil pass0 (pa_cons (pv 0) (pa_cons (pv 5) pa_nil))) (pa_cons (pe_ix (r := rIxT K) ix_tup (pe_ix (r := rIxT K) ix_tup (pv 2) pe_int (fun _ _ => rfl)) (pv 5) (fun _ _ => rfl)) pa_nil))) (pa_cons (pe_call G_law_minus (hr.mono (by decide)) (by rfl) Tp.g_law_minus Tp.F_law_minus.kp Tp.b_law_minus .nil pass0 (pa_cons (pe_ix (r := rIxT K) ix_tup (pe_ix (r := rIxT K) ix_tup (pv 0) pe_int (fun _ _ => rfl)) (pv 5) (fun _ _ => rfl)) (pa_cons (pe_call G_law_high (hr.mono (by decide)) (by rfl) Tp.g_law_high Tp.F_law_high.kp Tp.b_law_high .nil pass0 (pa_cons (pv 2) (pa_cons (pv 5) pa_nil))) pa_nil))) pa_nil)))) (pg_name (i := 7) sc_law_moments.nd rfl (.inl rfl)) (pss_one (ps_if (pt_cmpR op_ne (pe_ix (r := rIxT K) ix_tup (pv 6) pe_int (fun _ _ => rfl)) pe_int (nomark _)) (pss_cons (ps_set (i := 8) sc_law_moments.nd rfl (.inl rfl) (pe_call G_law_f (hr.mono (by decide)) (by rfl) Tp.g_law_f Tp.F_law_f.kp Tp.b_law_f .nil pass0 (pa_cons (pe_op op_mulW (pe_ix (r := rIxT K) ix_tup (pv 7) pe_int (fun _ _ => rfl)) (pe_ix (r := rIxT K) ix_tup (pv 6) pe_int (fun _ _ => rfl))) (pa_cons (pe_op op_mulW (pe_ix (r := rIxT K) ix_tup (pv 7) pe_int (fun _ _ => rfl)) (pe_ix (r := rIxT K) ix_tup (pv 6) pe_int (fun _ _ => rfl))) pa_nil))))
      (pss_one (ps_if (PW.pt (pw_and (pt_not (pt_val (pe_call G_law_less (hr.mono (by decide)) (by rfl) Tp.g_law_less Tp.F_law_less.kp Tp.b_law_less .nil pass0 (pa_cons (pv 8) (pa_cons (pe_tup (pa_cons pe_int (pa_cons pe_int pa_nil))) pa_nil))))) (pw_and1 (pt_not (pt_val (pe_call G_law_less (hr.mono (by decide)) (by rfl) Tp.g_law_less Tp.F_law_less.kp Tp.b_law_less .nil pass0 (pa_cons (pe_tup (pa_cons pe_int (pa_cons pe_int pa_nil))) (pa_cons (pv 8) pa_nil)))))))) (pss_one (ps_expr (pe_bm PySem.F.plainAttrs_list PySem.F.slot_list_append PySem.F.type_list_append mt_append (pv 4) (pa_cons (pv 8) pa_nil)))) pss_nil))) pss_nil))))))
      (pss_one (ps_ret (pe_call G_law_sorted (hr.mono (by decide)) (by rfl) Tp.g_law_sorted Tp.F_law_sorted.kp Tp.b_law_sorted .nil pass0 (pa_cons (pv 4) pa_nil)))))), body_P ?_ h⟩
  refine fun ds d r I => ?_
  obtain ⟨a, b, u0, u1, v0, v1, rfl, sz, rfl⟩ := r
  walk_at "norm"
  have sA := sz.x0
  have sB := sz.x1
  refine s_newLA (ds := [.d (fr (0, 1)), .d (fr (1, 1))]) (xs := [fr (0, 1), fr (1, 1)]) (p_cons (p_frac (a := (0, 1)) (x := 0) (y := 1) (by walk_at "ev") rfl) (p_cons (p_frac (a := (1, 1)) (x := 1) (y := 1) (by walk_at "ev") rfl) a_nil)) (.cons (.cons .nil)) (show 2 ≤ 100000 by decide) fun q hq => ?_
  have lA2 := smoms_len (sx0 a b u0 v0)
  have lB2 := smoms_len (sx1 a b u1 v1)
  refine s_seq (s_forT (j := 5) (ds := [.int 0, .int 1]) (fun _ => [some (.d (bxd a)), some (.d (vcd u0 u1)), some (.d (bxd b)), some (.d (vcd v0 v1)), some (.r q), none, none, none, none]) (fun i => lJ K q ((if i = 0 then ([(0, 1), (1, 1)] : List F) else if i = 1 then ([(0, 1), (1, 1)] : List F) ++ (sx0 a b u0 v0).moms else ([(0, 1), (1, 1)] : List F) ++ (sx0 a b u0 v0).moms ++ (sx1 a b u1 v1).moms).map fr) I) (p_tup2 (by walk_at "ev")) rfl fun i x hx => ?_) ?_
  · match i, hx with
    | 0, hx =>
      obtain rfl := Option.some.inj hx
      refine s_pre (I' := lJ K q ((([(0, 1), (1, 1)] : List F)).map fr) I) (fun _ _ z => z) ?_
      refine s_is ?_ (show Out.nx _ (lJ K q ((([(0, 1), (1, 1)] : List F) ++ (sx0 a b u0 v0).moms).map fr) I) = _ from rfl)
      rw [smoms_two (sx0 a b u0 v0), ← List.append_assoc]
      refine s_lessN (ρ' := [some (.d (bxd a)), some (.d (vcd u0 u1)), some (.d (bxd b)), some (.d (vcd v0 v1)), some (.r q), some (.i 0), some (.d (fr (sx0 a b u0 v0).w)), none, none]) ⟨.inr rfl, .inr rfl, .inr rfl, .inr rfl, .inr rfl, .inl rfl, .inl rfl, .inr rfl, .inr rfl, trivial⟩ ?_
      refine q_asg (d := .d (fr (sx0 a b u0 v0).w)) (e_is (d := .d (fr (lminus v0 u0))) (p_call (R := RPlus lminus) (ds := [.d (fr v0), .d (fr u0)]) (p_cons (p_ixT (ds := [fr v0, fr v1]) (i := 0) (e_var rfl) (e_var rfl) rfl) (p_cons (p_ixT (ds := [fr u0, fr u1]) (i := 0) (e_var rfl) (e_var rfl) rfl) a_nil)) (RPlus.mk sA.vb sA.va)) (congrArg (fun z => Dat.d (fr z)) (lminus_eq sA.vb.nrm sA.va.nrm))) ?_
      refine s_is (s_forT (j := 7) (ds := [fr (sx0 a b u0 v0).hi, fr (sx0 a b u0 v0).lo]) (fun _ => [some (.d (bxd a)), some (.d (vcd u0 u1)), some (.d (bxd b)), some (.d (vcd v0 v1)), some (.r q), some (.i 0), some (.d (fr (sx0 a b u0 v0).w)), none, none]) (fun i => lJ K q ((if i = 0 then ([(0, 1), (1, 1)] : List F) else if i = 1 then ([(0, 1), (1, 1)] : List F) ++ momG (sx0 a b u0 v0) (sx0 a b u0 v0).hi else ([(0, 1), (1, 1)] : List F) ++ momG (sx0 a b u0 v0) (sx0 a b u0 v0).hi ++ momG (sx0 a b u0 v0) (sx0 a b u0 v0).lo).map fr) I) (p_tup2 (p_cons (e_is (d := .d (fr (lminus (plusM a.p0 a.s0) b.p0))) (p_call (R := RPlus lminus) (ds := [.d (fr (plusM a.p0 a.s0)), .d (fr b.p0)]) (p_cons (p_call (R := RHigh) (ds := [.d (bxd a), .i 0]) (by walk_at "ev") ⟨a, 0, rfl, .inl rfl, sz.a0.mono (by decide), sz.a1.mono (by decide), sz.a2.mono (by decide), sz.a3.mono (by decide), rfl⟩) (p_cons (p_ixT (ds := [fr b.p0, fr b.p1]) (i := 0) (p_i0 (e_var rfl)) (e_var rfl) rfl) a_nil)) (RPlus.mk sA.ha sA.lb)) (congrArg (fun z => Dat.d (fr z)) (lminus_eq sA.ha.nrm sA.lb.nrm))) (p_cons (e_is (d := .d (fr (lminus a.p0 (plusM b.p0 b.s0)))) (p_call (R := RPlus lminus) (ds := [.d (fr a.p0), .d (fr (plusM b.p0 b.s0))]) (p_cons (p_ixT (ds := [fr a.p0, fr a.p1]) (i := 0) (p_i0 (e_var rfl)) (e_var rfl) rfl) (p_cons (p_call (R := RHigh) (ds := [.d (bxd b), .i 0]) (by walk_at "ev") ⟨b, 0, rfl, .inl rfl, sz.b0.mono (by decide), sz.b1.mono (by decide), sz.b2.mono (by decide), sz.b3.mono (by decide), rfl⟩) a_nil)) (RPlus.mk sA.la sA.hb)) (congrArg (fun z => Dat.d (fr z)) (lminus_eq sA.la.nrm sA.hb.nrm))) a_nil))) rfl fun i x hx => ?_) rfl
      match i, hx with
      | 0, hx =>
        obtain rfl := Option.some.inj hx
        refine s_pre (I' := lJ K q ((([(0, 1), (1, 1)] : List F)).map fr) I) (fun _ _ z => z) ?_
        refine s_is ?_ (show Out.nx _ (lJ K q ((([(0, 1), (1, 1)] : List F) ++ momG (sx0 a b u0 v0) (sx0 a b u0 v0).hi).map fr) I) = _ from rfl)
        by_cases z0 : (sx0 a b u0 v0).w.1 = 0
        · rw [momG_no (a := (sx0 a b u0 v0)) (L := (sx0 a b u0 v0).hi) z0, List.append_nil]
          refine s_lessN (ρ' := [some (.d (bxd a)), some (.d (vcd u0 u1)), some (.d (bxd b)), some (.d (vcd v0 v1)), some (.r q), some (.i 0), some (.d (fr (sx0 a b u0 v0).w)), some (.d (fr (sx0 a b u0 v0).hi)), none]) ⟨.inr rfl, .inr rfl, .inr rfl, .inr rfl, .inr rfl, .inr rfl, .inr rfl, .inl rfl, .inr rfl, trivial⟩ ?_
          exact q_ifF (p_test (p_neI (i := (sx0 a b u0 v0).w.1) (j := 0) (p_f1 (a := (sx0 a b u0 v0).w) (e_var rfl)) e_int)) (by rw [decide_eq_true z0]; rfl) s_next
        · rw [momG_yes (a := (sx0 a b u0 v0)) (L := (sx0 a b u0 v0).hi) z0]
          refine s_lessN (ρ' := [some (.d (bxd a)), some (.d (vcd u0 u1)), some (.d (bxd b)), some (.d (vcd v0 v1)), some (.r q), some (.i 0), some (.d (fr (sx0 a b u0 v0).w)), some (.d (fr (sx0 a b u0 v0).hi)), some (.d (fr (tmG (sx0 a b u0 v0).hi (sx0 a b u0 v0).w)))]) ⟨.inr rfl, .inr rfl, .inr rfl, .inr rfl, .inr rfl, .inr rfl, .inr rfl, .inl rfl, .inl rfl, trivial⟩ ?_
          refine q_ifT (p_test (p_neI (i := (sx0 a b u0 v0).w.1) (j := 0) (p_f1 (a := (sx0 a b u0 v0).w) (e_var rfl)) e_int)) (by rw [decide_eq_false z0]; rfl) ?_
          have ht : PL.Ok 510 (tmG (sx0 a b u0 v0).hi (sx0 a b u0 v0).w) := tmG_sz sA.hi sA.w z0
          refine q_asg (d := .d (fr (tmG (sx0 a b u0 v0).hi (sx0 a b u0 v0).w))) (p_call (R := RF) (ds := [.i ((sx0 a b u0 v0).hi.1 * (sx0 a b u0 v0).w.2), .i ((sx0 a b u0 v0).hi.2 * (sx0 a b u0 v0).w.1)]) (p_cons (p_mul (p_f1 (e_var rfl)) (p_f2 (a := (sx0 a b u0 v0).w) (e_var rfl)) (mulW sA.hi.sz.1 sA.w.sz.2 (by decide))) (p_cons (p_mul (p_f2 (e_var rfl)) (p_f1 (a := (sx0 a b u0 v0).w) (e_var rfl)) (mulW sA.hi.sz.2 sA.w.sz.1 (by decide))) a_nil)) (RF.mk (m := 1100) (n := 1100) (Int.mul_ne_zero (by have := sA.hi.nrm.1; omega) z0) (sz_le (sz_mul sA.hi.sz.1 sA.w.sz.2) (by decide)) (sz_le (sz_mul sA.hi.sz.2 sA.w.sz.1) (by decide)) (by decide) (by decide))) ?_
          unfold keepT
          by_cases c : (!less (tmG (sx0 a b u0 v0).hi (sx0 a b u0 v0).w) (0, 1) && !less (1, 1) (tmG (sx0 a b u0 v0).hi (sx0 a b u0 v0).w)) = true
          · rw [if_pos c, frs_snoc]
            exact q_ifT (t_and (t_not (t_B (p_call (R := RLess) (ds := [.d (fr (tmG (sx0 a b u0 v0).hi (sx0 a b u0 v0).w)), .d (fr (0, 1))]) (p_cons (e_var rfl) (p_cons (p_frac (a := (0, 1)) (x := 0) (y := 1) (by walk_at "ev") rfl) a_nil)) ⟨_, _, rfl, ht.mono (by decide), ok_c0 (by decide), rfl⟩))) fun _ => t_not (t_B (p_call (R := RLess) (ds := [.d (fr (1, 1)), .d (fr (tmG (sx0 a b u0 v0).hi (sx0 a b u0 v0).w))]) (p_cons (p_frac (a := (1, 1)) (x := 1) (y := 1) (by walk_at "ev") rfl) (p_cons (e_var rfl) a_nil)) ⟨_, _, rfl, ok_c1 (by decide), ht.mono (by decide), rfl⟩))) c (s_app (e_var rfl) rfl (by skip; rw [List.length_map]; simp only [List.length_append, List.length_cons, List.length_nil]; omega) hq)
          · rw [if_neg c, List.append_nil]
            exact q_ifF (t_and (t_not (t_B (p_call (R := RLess) (ds := [.d (fr (tmG (sx0 a b u0 v0).hi (sx0 a b u0 v0).w)), .d (fr (0, 1))]) (p_cons (e_var rfl) (p_cons (p_frac (a := (0, 1)) (x := 0) (y := 1) (by walk_at "ev") rfl) a_nil)) ⟨_, _, rfl, ht.mono (by decide), ok_c0 (by decide), rfl⟩))) fun _ => t_not (t_B (p_call (R := RLess) (ds := [.d (fr (1, 1)), .d (fr (tmG (sx0 a b u0 v0).hi (sx0 a b u0 v0).w))]) (p_cons (p_frac (a := (1, 1)) (x := 1) (y := 1) (by walk_at "ev") rfl) (p_cons (e_var rfl) a_nil)) ⟨_, _, rfl, ok_c1 (by decide), ht.mono (by decide), rfl⟩))) (Bool.eq_false_iff.mpr c) s_next
      | 1, hx =>
        obtain rfl := Option.some.inj hx
        refine s_pre (I' := lJ K q ((([(0, 1), (1, 1)] : List F) ++ momG (sx0 a b u0 v0) (sx0 a b u0 v0).hi).map fr) I) (fun _ _ z => z) ?_
        refine s_is ?_ (show Out.nx _ (lJ K q ((([(0, 1), (1, 1)] : List F) ++ momG (sx0 a b u0 v0) (sx0 a b u0 v0).hi ++ momG (sx0 a b u0 v0) (sx0 a b u0 v0).lo).map fr) I) = _ from rfl)
        by_cases z0 : (sx0 a b u0 v0).w.1 = 0
        · rw [momG_no (a := (sx0 a b u0 v0)) (L := (sx0 a b u0 v0).lo) z0, List.append_nil]
          refine s_lessN (ρ' := [some (.d (bxd a)), some (.d (vcd u0 u1)), some (.d (bxd b)), some (.d (vcd v0 v1)), some (.r q), some (.i 0), some (.d (fr (sx0 a b u0 v0).w)), some (.d (fr (sx0 a b u0 v0).lo)), none]) ⟨.inr rfl, .inr rfl, .inr rfl, .inr rfl, .inr rfl, .inr rfl, .inr rfl, .inl rfl, .inr rfl, trivial⟩ ?_
          exact q_ifF (p_test (p_neI (i := (sx0 a b u0 v0).w.1) (j := 0) (p_f1 (a := (sx0 a b u0 v0).w) (e_var rfl)) e_int)) (by rw [decide_eq_true z0]; rfl) s_next
        · rw [momG_yes (a := (sx0 a b u0 v0)) (L := (sx0 a b u0 v0).lo) z0]
          refine s_lessN (ρ' := [some (.d (bxd a)), some (.d (vcd u0 u1)), some (.d (bxd b)), some (.d (vcd v0 v1)), some (.r q), some (.i 0), some (.d (fr (sx0 a b u0 v0).w)), some (.d (fr (sx0 a b u0 v0).lo)), some (.d (fr (tmG (sx0 a b u0 v0).lo (sx0 a b u0 v0).w)))]) ⟨.inr rfl, .inr rfl, .inr rfl, .inr rfl, .inr rfl, .inr rfl, .inr rfl, .inl rfl, .inl rfl, trivial⟩ ?_
          refine q_ifT (p_test (p_neI (i := (sx0 a b u0 v0).w.1) (j := 0) (p_f1 (a := (sx0 a b u0 v0).w) (e_var rfl)) e_int)) (by rw [decide_eq_false z0]; rfl) ?_
          have ht : PL.Ok 510 (tmG (sx0 a b u0 v0).lo (sx0 a b u0 v0).w) := tmG_sz sA.lo sA.w z0
          refine q_asg (d := .d (fr (tmG (sx0 a b u0 v0).lo (sx0 a b u0 v0).w))) (p_call (R := RF) (ds := [.i ((sx0 a b u0 v0).lo.1 * (sx0 a b u0 v0).w.2), .i ((sx0 a b u0 v0).lo.2 * (sx0 a b u0 v0).w.1)]) (p_cons (p_mul (p_f1 (e_var rfl)) (p_f2 (a := (sx0 a b u0 v0).w) (e_var rfl)) (mulW sA.lo.sz.1 sA.w.sz.2 (by decide))) (p_cons (p_mul (p_f2 (e_var rfl)) (p_f1 (a := (sx0 a b u0 v0).w) (e_var rfl)) (mulW sA.lo.sz.2 sA.w.sz.1 (by decide))) a_nil)) (RF.mk (m := 1100) (n := 1100) (Int.mul_ne_zero (by have := sA.lo.nrm.1; omega) z0) (sz_le (sz_mul sA.lo.sz.1 sA.w.sz.2) (by decide)) (sz_le (sz_mul sA.lo.sz.2 sA.w.sz.1) (by decide)) (by decide) (by decide))) ?_
          unfold keepT
          by_cases c : (!less (tmG (sx0 a b u0 v0).lo (sx0 a b u0 v0).w) (0, 1) && !less (1, 1) (tmG (sx0 a b u0 v0).lo (sx0 a b u0 v0).w)) = true
          · rw [if_pos c, frs_snoc]
            exact q_ifT (t_and (t_not (t_B (p_call (R := RLess) (ds := [.d (fr (tmG (sx0 a b u0 v0).lo (sx0 a b u0 v0).w)), .d (fr (0, 1))]) (p_cons (e_var rfl) (p_cons (p_frac (a := (0, 1)) (x := 0) (y := 1) (by walk_at "ev") rfl) a_nil)) ⟨_, _, rfl, ht.mono (by decide), ok_c0 (by decide), rfl⟩))) fun _ => t_not (t_B (p_call (R := RLess) (ds := [.d (fr (1, 1)), .d (fr (tmG (sx0 a b u0 v0).lo (sx0 a b u0 v0).w))]) (p_cons (p_frac (a := (1, 1)) (x := 1) (y := 1) (by walk_at "ev") rfl) (p_cons (e_var rfl) a_nil)) ⟨_, _, rfl, ok_c1 (by decide), ht.mono (by decide), rfl⟩))) c (s_app (e_var rfl) rfl (by skip; have hz := momG_len (sx0 a b u0 v0) (sx0 a b u0 v0).hi; rw [List.length_map]; simp only [List.length_append, List.length_cons, List.length_nil]; omega) hq)
          · rw [if_neg c, List.append_nil]
            exact q_ifF (t_and (t_not (t_B (p_call (R := RLess) (ds := [.d (fr (tmG (sx0 a b u0 v0).lo (sx0 a b u0 v0).w)), .d (fr (0, 1))]) (p_cons (e_var rfl) (p_cons (p_frac (a := (0, 1)) (x := 0) (y := 1) (by walk_at "ev") rfl) a_nil)) ⟨_, _, rfl, ht.mono (by decide), ok_c0 (by decide), rfl⟩))) fun _ => t_not (t_B (p_call (R := RLess) (ds := [.d (fr (1, 1)), .d (fr (tmG (sx0 a b u0 v0).lo (sx0 a b u0 v0).w))]) (p_cons (p_frac (a := (1, 1)) (x := 1) (y := 1) (by walk_at "ev") rfl) (p_cons (e_var rfl) a_nil)) ⟨_, _, rfl, ok_c1 (by decide), ht.mono (by decide), rfl⟩))) (Bool.eq_false_iff.mpr c) s_next
      | n + 2, hx => simp at hx
    | 1, hx =>
      obtain rfl := Option.some.inj hx
      refine s_pre (I' := lJ K q ((([(0, 1), (1, 1)] : List F) ++ (sx0 a b u0 v0).moms).map fr) I) (fun _ _ z => z) ?_
      refine s_is ?_ (show Out.nx _ (lJ K q ((([(0, 1), (1, 1)] : List F) ++ (sx0 a b u0 v0).moms ++ (sx1 a b u1 v1).moms).map fr) I) = _ from rfl)
      rw [smoms_two (sx1 a b u1 v1), ← List.append_assoc]
      refine s_lessN (ρ' := [some (.d (bxd a)), some (.d (vcd u0 u1)), some (.d (bxd b)), some (.d (vcd v0 v1)), some (.r q), some (.i 1), some (.d (fr (sx1 a b u1 v1).w)), none, none]) ⟨.inr rfl, .inr rfl, .inr rfl, .inr rfl, .inr rfl, .inl rfl, .inl rfl, .inr rfl, .inr rfl, trivial⟩ ?_
      refine q_asg (d := .d (fr (sx1 a b u1 v1).w)) (e_is (d := .d (fr (lminus v1 u1))) (p_call (R := RPlus lminus) (ds := [.d (fr v1), .d (fr u1)]) (p_cons (p_ixT (ds := [fr v0, fr v1]) (i := 1) (e_var rfl) (e_var rfl) rfl) (p_cons (p_ixT (ds := [fr u0, fr u1]) (i := 1) (e_var rfl) (e_var rfl) rfl) a_nil)) (RPlus.mk sB.vb sB.va)) (congrArg (fun z => Dat.d (fr z)) (lminus_eq sB.vb.nrm sB.va.nrm))) ?_
      refine s_is (s_forT (j := 7) (ds := [fr (sx1 a b u1 v1).hi, fr (sx1 a b u1 v1).lo]) (fun _ => [some (.d (bxd a)), some (.d (vcd u0 u1)), some (.d (bxd b)), some (.d (vcd v0 v1)), some (.r q), some (.i 1), some (.d (fr (sx1 a b u1 v1).w)), none, none]) (fun i => lJ K q ((if i = 0 then ([(0, 1), (1, 1)] : List F) ++ (sx0 a b u0 v0).moms else if i = 1 then ([(0, 1), (1, 1)] : List F) ++ (sx0 a b u0 v0).moms ++ momG (sx1 a b u1 v1) (sx1 a b u1 v1).hi else ([(0, 1), (1, 1)] : List F) ++ (sx0 a b u0 v0).moms ++ momG (sx1 a b u1 v1) (sx1 a b u1 v1).hi ++ momG (sx1 a b u1 v1) (sx1 a b u1 v1).lo).map fr) I) (p_tup2 (p_cons (e_is (d := .d (fr (lminus (plusM a.p1 a.s1) b.p1))) (p_call (R := RPlus lminus) (ds := [.d (fr (plusM a.p1 a.s1)), .d (fr b.p1)]) (p_cons (p_call (R := RHigh) (ds := [.d (bxd a), .i 1]) (by walk_at "ev") ⟨a, 1, rfl, .inr rfl, sz.a0.mono (by decide), sz.a1.mono (by decide), sz.a2.mono (by decide), sz.a3.mono (by decide), rfl⟩) (p_cons (p_ixT (ds := [fr b.p0, fr b.p1]) (i := 1) (p_i0 (e_var rfl)) (e_var rfl) rfl) a_nil)) (RPlus.mk sB.ha sB.lb)) (congrArg (fun z => Dat.d (fr z)) (lminus_eq sB.ha.nrm sB.lb.nrm))) (p_cons (e_is (d := .d (fr (lminus a.p1 (plusM b.p1 b.s1)))) (p_call (R := RPlus lminus) (ds := [.d (fr a.p1), .d (fr (plusM b.p1 b.s1))]) (p_cons (p_ixT (ds := [fr a.p0, fr a.p1]) (i := 1) (p_i0 (e_var rfl)) (e_var rfl) rfl) (p_cons (p_call (R := RHigh) (ds := [.d (bxd b), .i 1]) (by walk_at "ev") ⟨b, 1, rfl, .inr rfl, sz.b0.mono (by decide), sz.b1.mono (by decide), sz.b2.mono (by decide), sz.b3.mono (by decide), rfl⟩) a_nil)) (RPlus.mk sB.la sB.hb)) (congrArg (fun z => Dat.d (fr z)) (lminus_eq sB.la.nrm sB.hb.nrm))) a_nil))) rfl fun i x hx => ?_) rfl
      match i, hx with
      | 0, hx =>
        obtain rfl := Option.some.inj hx
        refine s_pre (I' := lJ K q ((([(0, 1), (1, 1)] : List F) ++ (sx0 a b u0 v0).moms).map fr) I) (fun _ _ z => z) ?_
        refine s_is ?_ (show Out.nx _ (lJ K q ((([(0, 1), (1, 1)] : List F) ++ (sx0 a b u0 v0).moms ++ momG (sx1 a b u1 v1) (sx1 a b u1 v1).hi).map fr) I) = _ from rfl)
        by_cases z0 : (sx1 a b u1 v1).w.1 = 0
        · rw [momG_no (a := (sx1 a b u1 v1)) (L := (sx1 a b u1 v1).hi) z0, List.append_nil]
          refine s_lessN (ρ' := [some (.d (bxd a)), some (.d (vcd u0 u1)), some (.d (bxd b)), some (.d (vcd v0 v1)), some (.r q), some (.i 1), some (.d (fr (sx1 a b u1 v1).w)), some (.d (fr (sx1 a b u1 v1).hi)), none]) ⟨.inr rfl, .inr rfl, .inr rfl, .inr rfl, .inr rfl, .inr rfl, .inr rfl, .inl rfl, .inr rfl, trivial⟩ ?_
          exact q_ifF (p_test (p_neI (i := (sx1 a b u1 v1).w.1) (j := 0) (p_f1 (a := (sx1 a b u1 v1).w) (e_var rfl)) e_int)) (by rw [decide_eq_true z0]; rfl) s_next
        · rw [momG_yes (a := (sx1 a b u1 v1)) (L := (sx1 a b u1 v1).hi) z0]
          refine s_lessN (ρ' := [some (.d (bxd a)), some (.d (vcd u0 u1)), some (.d (bxd b)), some (.d (vcd v0 v1)), some (.r q), some (.i 1), some (.d (fr (sx1 a b u1 v1).w)), some (.d (fr (sx1 a b u1 v1).hi)), some (.d (fr (tmG (sx1 a b u1 v1).hi (sx1 a b u1 v1).w)))]) ⟨.inr rfl, .inr rfl, .inr rfl, .inr rfl, .inr rfl, .inr rfl, .inr rfl, .inl rfl, .inl rfl, trivial⟩ ?_
          refine q_ifT (p_test (p_neI (i := (sx1 a b u1 v1).w.1) (j := 0) (p_f1 (a := (sx1 a b u1 v1).w) (e_var rfl)) e_int)) (by rw [decide_eq_false z0]; rfl) ?_
          have ht : PL.Ok 510 (tmG (sx1 a b u1 v1).hi (sx1 a b u1 v1).w) := tmG_sz sB.hi sB.w z0
          refine q_asg (d := .d (fr (tmG (sx1 a b u1 v1).hi (sx1 a b u1 v1).w))) (p_call (R := RF) (ds := [.i ((sx1 a b u1 v1).hi.1 * (sx1 a b u1 v1).w.2), .i ((sx1 a b u1 v1).hi.2 * (sx1 a b u1 v1).w.1)]) (p_cons (p_mul (p_f1 (e_var rfl)) (p_f2 (a := (sx1 a b u1 v1).w) (e_var rfl)) (mulW sB.hi.sz.1 sB.w.sz.2 (by decide))) (p_cons (p_mul (p_f2 (e_var rfl)) (p_f1 (a := (sx1 a b u1 v1).w) (e_var rfl)) (mulW sB.hi.sz.2 sB.w.sz.1 (by decide))) a_nil)) (RF.mk (m := 1100) (n := 1100) (Int.mul_ne_zero (by have := sB.hi.nrm.1; omega) z0) (sz_le (sz_mul sB.hi.sz.1 sB.w.sz.2) (by decide)) (sz_le (sz_mul sB.hi.sz.2 sB.w.sz.1) (by decide)) (by decide) (by decide))) ?_
          unfold keepT
          by_cases c : (!less (tmG (sx1 a b u1 v1).hi (sx1 a b u1 v1).w) (0, 1) && !less (1, 1) (tmG (sx1 a b u1 v1).hi (sx1 a b u1 v1).w)) = true
          · rw [if_pos c, frs_snoc]
            exact q_ifT (t_and (t_not (t_B (p_call (R := RLess) (ds := [.d (fr (tmG (sx1 a b u1 v1).hi (sx1 a b u1 v1).w)), .d (fr (0, 1))]) (p_cons (e_var rfl) (p_cons (p_frac (a := (0, 1)) (x := 0) (y := 1) (by walk_at "ev") rfl) a_nil)) ⟨_, _, rfl, ht.mono (by decide), ok_c0 (by decide), rfl⟩))) fun _ => t_not (t_B (p_call (R := RLess) (ds := [.d (fr (1, 1)), .d (fr (tmG (sx1 a b u1 v1).hi (sx1 a b u1 v1).w))]) (p_cons (p_frac (a := (1, 1)) (x := 1) (y := 1) (by walk_at "ev") rfl) (p_cons (e_var rfl) a_nil)) ⟨_, _, rfl, ok_c1 (by decide), ht.mono (by decide), rfl⟩))) c (s_app (e_var rfl) rfl (by skip; rw [List.length_map]; simp only [List.length_append, List.length_cons, List.length_nil]; omega) hq)
          · rw [if_neg c, List.append_nil]
            exact q_ifF (t_and (t_not (t_B (p_call (R := RLess) (ds := [.d (fr (tmG (sx1 a b u1 v1).hi (sx1 a b u1 v1).w)), .d (fr (0, 1))]) (p_cons (e_var rfl) (p_cons (p_frac (a := (0, 1)) (x := 0) (y := 1) (by walk_at "ev") rfl) a_nil)) ⟨_, _, rfl, ht.mono (by decide), ok_c0 (by decide), rfl⟩))) fun _ => t_not (t_B (p_call (R := RLess) (ds := [.d (fr (1, 1)), .d (fr (tmG (sx1 a b u1 v1).hi (sx1 a b u1 v1).w))]) (p_cons (p_frac (a := (1, 1)) (x := 1) (y := 1) (by walk_at "ev") rfl) (p_cons (e_var rfl) a_nil)) ⟨_, _, rfl, ok_c1 (by decide), ht.mono (by decide), rfl⟩))) (Bool.eq_false_iff.mpr c) s_next
      | 1, hx =>
        obtain rfl := Option.some.inj hx
        refine s_pre (I' := lJ K q ((([(0, 1), (1, 1)] : List F) ++ (sx0 a b u0 v0).moms ++ momG (sx1 a b u1 v1) (sx1 a b u1 v1).hi).map fr) I) (fun _ _ z => z) ?_
        refine s_is ?_ (show Out.nx _ (lJ K q ((([(0, 1), (1, 1)] : List F) ++ (sx0 a b u0 v0).moms ++ momG (sx1 a b u1 v1) (sx1 a b u1 v1).hi ++ momG (sx1 a b u1 v1) (sx1 a b u1 v1).lo).map fr) I) = _ from rfl)
        by_cases z0 : (sx1 a b u1 v1).w.1 = 0
        · rw [momG_no (a := (sx1 a b u1 v1)) (L := (sx1 a b u1 v1).lo) z0, List.append_nil]
          refine s_lessN (ρ' := [some (.d (bxd a)), some (.d (vcd u0 u1)), some (.d (bxd b)), some (.d (vcd v0 v1)), some (.r q), some (.i 1), some (.d (fr (sx1 a b u1 v1).w)), some (.d (fr (sx1 a b u1 v1).lo)), none]) ⟨.inr rfl, .inr rfl, .inr rfl, .inr rfl, .inr rfl, .inr rfl, .inr rfl, .inl rfl, .inr rfl, trivial⟩ ?_
          exact q_ifF (p_test (p_neI (i := (sx1 a b u1 v1).w.1) (j := 0) (p_f1 (a := (sx1 a b u1 v1).w) (e_var rfl)) e_int)) (by rw [decide_eq_true z0]; rfl) s_next
        · rw [momG_yes (a := (sx1 a b u1 v1)) (L := (sx1 a b u1 v1).lo) z0]
          refine s_lessN (ρ' := [some (.d (bxd a)), some (.d (vcd u0 u1)), some (.d (bxd b)), some (.d (vcd v0 v1)), some (.r q), some (.i 1), some (.d (fr (sx1 a b u1 v1).w)), some (.d (fr (sx1 a b u1 v1).lo)), some (.d (fr (tmG (sx1 a b u1 v1).lo (sx1 a b u1 v1).w)))]) ⟨.inr rfl, .inr rfl, .inr rfl, .inr rfl, .inr rfl, .inr rfl, .inr rfl, .inl rfl, .inl rfl, trivial⟩ ?_
          refine q_ifT (p_test (p_neI (i := (sx1 a b u1 v1).w.1) (j := 0) (p_f1 (a := (sx1 a b u1 v1).w) (e_var rfl)) e_int)) (by rw [decide_eq_false z0]; rfl) ?_
          have ht : PL.Ok 510 (tmG (sx1 a b u1 v1).lo (sx1 a b u1 v1).w) := tmG_sz sB.lo sB.w z0
          refine q_asg (d := .d (fr (tmG (sx1 a b u1 v1).lo (sx1 a b u1 v1).w))) (p_call (R := RF) (ds := [.i ((sx1 a b u1 v1).lo.1 * (sx1 a b u1 v1).w.2), .i ((sx1 a b u1 v1).lo.2 * (sx1 a b u1 v1).w.1)]) (p_cons (p_mul (p_f1 (e_var rfl)) (p_f2 (a := (sx1 a b u1 v1).w) (e_var rfl)) (mulW sB.lo.sz.1 sB.w.sz.2 (by decide))) (p_cons (p_mul (p_f2 (e_var rfl)) (p_f1 (a := (sx1 a b u1 v1).w) (e_var rfl)) (mulW sB.lo.sz.2 sB.w.sz.1 (by decide))) a_nil)) (RF.mk (m := 1100) (n := 1100) (Int.mul_ne_zero (by have := sB.lo.nrm.1; omega) z0) (sz_le (sz_mul sB.lo.sz.1 sB.w.sz.2) (by decide)) (sz_le (sz_mul sB.lo.sz.2 sB.w.sz.1) (by decide)) (by decide) (by decide))) ?_
          unfold keepT
          by_cases c : (!less (tmG (sx1 a b u1 v1).lo (sx1 a b u1 v1).w) (0, 1) && !less (1, 1) (tmG (sx1 a b u1 v1).lo (sx1 a b u1 v1).w)) = true
          · rw [if_pos c, frs_snoc]
            exact q_ifT (t_and (t_not (t_B (p_call (R := RLess) (ds := [.d (fr (tmG (sx1 a b u1 v1).lo (sx1 a b u1 v1).w)), .d (fr (0, 1))]) (p_cons (e_var rfl) (p_cons (p_frac (a := (0, 1)) (x := 0) (y := 1) (by walk_at "ev") rfl) a_nil)) ⟨_, _, rfl, ht.mono (by decide), ok_c0 (by decide), rfl⟩))) fun _ => t_not (t_B (p_call (R := RLess) (ds := [.d (fr (1, 1)), .d (fr (tmG (sx1 a b u1 v1).lo (sx1 a b u1 v1).w))]) (p_cons (p_frac (a := (1, 1)) (x := 1) (y := 1) (by walk_at "ev") rfl) (p_cons (e_var rfl) a_nil)) ⟨_, _, rfl, ok_c1 (by decide), ht.mono (by decide), rfl⟩))) c (s_app (e_var rfl) rfl (by skip; have hz := momG_len (sx1 a b u1 v1) (sx1 a b u1 v1).hi; rw [List.length_map]; simp only [List.length_append, List.length_cons, List.length_nil]; omega) hq)
          · rw [if_neg c, List.append_nil]
            exact q_ifF (t_and (t_not (t_B (p_call (R := RLess) (ds := [.d (fr (tmG (sx1 a b u1 v1).lo (sx1 a b u1 v1).w)), .d (fr (0, 1))]) (p_cons (e_var rfl) (p_cons (p_frac (a := (0, 1)) (x := 0) (y := 1) (by walk_at "ev") rfl) a_nil)) ⟨_, _, rfl, ht.mono (by decide), ok_c0 (by decide), rfl⟩))) fun _ => t_not (t_B (p_call (R := RLess) (ds := [.d (fr (1, 1)), .d (fr (tmG (sx1 a b u1 v1).lo (sx1 a b u1 v1).w))]) (p_cons (p_frac (a := (1, 1)) (x := 1) (y := 1) (by walk_at "ev") rfl) (p_cons (e_var rfl) a_nil)) ⟨_, _, rfl, ok_c1 (by decide), ht.mono (by decide), rfl⟩))) (Bool.eq_false_iff.mpr c) s_next
      | n + 2, hx => simp at hx
    | n + 2, hx => simp at hx
  refine s_pre (I' := lJ K q ((([(0, 1), (1, 1)] : List F) ++ (sx0 a b u0 v0).moms ++ (sx1 a b u1 v1).moms).map fr) I) (fun _ _ z => z) ?_
  have hml : (([(0, 1), (1, 1)] : List F) ++ (sx0 a b u0 v0).moms ++ (sx1 a b u1 v1).moms).length ≤ 100 := by
    simp only [List.length_append, List.length_cons, List.length_nil]
    omega
  have hms := all_sz sA sB
  unfold msM
  generalize ([(0, 1), (1, 1)] : List F) ++ (sx0 a b u0 v0).moms ++ (sx1 a b u1 v1).moms = ms at *
  refine s_freeze (i := 4) rfl hq ?_
  exact p_ret (p_call (R := RSorted) (ds := [.d (.list (ms.map fr))]) (p_cons (e_var rfl) a_nil) ⟨ms, rfl, fun y hy => (hms y hy).mono (by decide), hml, rfl⟩)
theorem fok_law_refused (Tp : Top K mg base) : FnOk P w K mg base CX0 5 Tp.f_law_refused Tp.d_law_refused ["a", "b"] (spP K RRefS) := by
  have G_overlap_times := fok_overlap_times (P := P) (w := w) (base := base) Tp
  refine Tp.F_law_refused.ok sc_law_refused (fun vs H Q E h => len_P (fun _ _ ⟨_, _, e, _⟩ => by rw [e]; rfl) h) (fun cdv A outer s H vs Q E hr h => ?_)
  refine ⟨_, (pss_cons (ps_set (i := 2) sc_law_refused.nd rfl (.inl rfl) (pe_tup (pa_cons (pe_tup (pa_cons pe_int (pa_cons pe_int pa_nil))) (pa_cons (pe_tup (pa_cons pe_int (pa_cons pe_int pa_nil))) pa_nil))))
      (pss_cons (ps_try_only rfl rfl ⟨rfl, by decide, .inl Tp.gc_BoxError⟩ takes0 (fun W pn xe tk _ => (pss_one (ps_set (i := 3) sc_law_refused.nd rfl (.inl rfl) (pe_callS G_overlap_times (hr.mono (by decide)) (by rfl) Tp.g_overlap_times Tp.F_overlap_times.kp Tp.b_overlap_times (fun σ => passAt tk σ) (pa_cons (pv 0) (pa_cons (pv 2) (pa_cons (pv 1) (pa_cons (pv 2) pa_nil)))))))) (fun a oe cls d pn hz hf => (pss_one (ps_ret pe_bl))))
      (pss_one (ps_ret pe_bl)))), body_P ?_ h⟩
  refine fun ds d r I => ?_
  obtain ⟨a, b, rfl, sz, h0, rfl⟩ := r
  walk_at "norm"
  refine q_asg (d := .d (vcd (0, 1) (0, 1))) (p_tup2 (p_cons (p_frac (a := (0, 1)) (x := 0) (y := 1) (by walk_at "ev") rfl) (p_cons (p_frac (a := (0, 1)) (x := 0) (y := 1) (by walk_at "ev") rfl) a_nil))) ?_
  exact s_stop (s_tryErr (R := RSweep Tp.c_BoxError) (ds := [.d (bxd a), .d (vcd (0, 1) (0, 1)), .d (bxd b), .d (vcd (0, 1) (0, 1))]) (C := Tp.c_BoxError) (J := I) (by walk_at "ev") ⟨a, b, _, _, _, _, rfl, sz, .inr ⟨h0, rfl⟩⟩ (PySem.W.exm_ref Tp.bc_BoxError Tp.hc_BoxError Tp.tc_BoxError Tp.ac_BoxError_BoxError) fun _ => s_ret e_bl)
theorem fok_law_over (Tp : Top K mg base) : FnOk P w K mg base CX0 6 Tp.f_law_over Tp.d_law_over ["a", "b"] (spP K ROverB) := by
  have G_law_gap := fok_law_gap (P := P) (w := w) (base := base) Tp
  refine Tp.F_law_over.ok sc_law_over (fun vs H Q E h => len_P (fun _ _ ⟨_, _, e, _⟩ => by rw [e]; rfl) h) (fun cdv A outer s H vs Q E hr h => ?_)
  refine ⟨_, (pss_one (ps_ret (pe_and (pe_cmpR op_lt (pe_ix (r := rIxT K) ix_tup (pe_call G_law_gap (hr.mono (by decide)) (by rfl) Tp.g_law_gap Tp.F_law_gap.kp Tp.b_law_gap .nil pass0 (pa_cons (pv 0) (pa_cons (pv 1) (pa_cons pe_int pa_nil)))) pe_int (fun _ _ => rfl)) pe_int (nomark _)) (pe_one (pe_cmpR op_lt (pe_ix (r := rIxT K) ix_tup (pe_call G_law_gap (hr.mono (by decide)) (by rfl) Tp.g_law_gap Tp.F_law_gap.kp Tp.b_law_gap .nil pass0 (pa_cons (pv 0) (pa_cons (pv 1) (pa_cons pe_int pa_nil)))) pe_int (fun _ _ => rfl)) pe_int (nomark _)))))), body_P ?_ h⟩
  refine fun ds d r I => ?_
  obtain ⟨a, b, rfl, ha, hb, rfl⟩ := r
  walk_at "norm"
  exact p_ret (e_andV (p_lt (i := (gapM a.p0 a.s0 b.p0 b.s0).1) (j := 0) (p_f1 (p_call (R := RGap) (ds := [.d (bxd a), .d (bxd b), .i 0]) (by walk_at "ev") ⟨a, b, 0, rfl, .inl rfl, ha, hb, rfl⟩)) e_int) fun _ => p_lt (i := (gapM a.p1 a.s1 b.p1 b.s1).1) (j := 0) (p_f1 (p_call (R := RGap) (ds := [.d (bxd a), .d (bxd b), .i 1]) (by walk_at "ev") ⟨a, b, 1, rfl, .inr rfl, ha, hb, rfl⟩)) e_int)
theorem fok_law_box (Tp : Top K mg base) : FnOk P w K mg base CX0 6 Tp.f_law_box Tp.d_law_box ["d", "boxes"] (spW K RBoxG) := by
  have G_law_size := fok_law_size (P := P) (w := w) (base := base) Tp
  have G_law_vector := fok_law_vector (P := P) (w := w) (base := base) Tp
  have G_law_take := fok_law_take (P := P) (w := w) (base := base) Tp
  have G_law_beside := fok_law_beside (P := P) (w := w) (base := base) Tp
  refine Tp.F_law_box.ok sc_law_box (fun vs H Q E h => len_W (fun _ _ _ _ ⟨_, e, _⟩ => by rw [e]; rfl) h) (fun cdv A outer s H vs Q E hr h => ?_)
  refine ⟨_, (pss_cons (ps_set (i := 2) sc_law_box.nd rfl (.inl rfl) (pe_call G_law_size (hr.mono (by decide)) (by rfl) Tp.g_law_size Tp.F_law_size.kp Tp.b_law_size .nil pass0 (pa_cons (pv 0) pa_nil)))
      (pss_cons (ps_if (PW.pt (pw_and (pt_cmpR op_gt (pe_callB call_len_seq (by rfl) Tp.n_len (by decide +kernel) (pa_cons (pv 1) pa_nil)) pe_int (nomark _)) (pw_and1 (pt_cmpR op_gt (pe_call G_law_take (hr.mono (by decide)) (by rfl) Tp.g_law_take Tp.F_law_take.kp Tp.b_law_take .nil pass0 (pa_cons (pv 0) (pa_cons pe_int pa_nil))) pe_int (nomark _))))) (pss_one (ps_ret (pe_tup (pa_cons (pe_call G_law_beside (hr.mono (by decide)) (by rfl) Tp.g_law_beside Tp.F_law_beside.kp Tp.b_law_beside .nil pass0 (pa_cons (pv 0) (pa_cons (pe_ix (r := rIxL K) ix_list (pv 1) (pe_call G_law_take (hr.mono (by decide)) (by rfl) Tp.g_law_take Tp.F_law_take.kp Tp.b_law_take .nil pass0 (pa_cons (pv 0) (pa_cons (pe_callB call_len_seq (by rfl) Tp.n_len (by decide +kernel) (pa_cons (pv 1) pa_nil)) pa_nil))) (fun _ _ => rfl)) (pa_cons (pv 2) pa_nil)))) (pa_cons (pv 2) pa_nil))))) pss_nil)
      (pss_one (ps_ret (pe_tup (pa_cons (pe_call G_law_vector (hr.mono (by decide)) (by rfl) Tp.g_law_vector Tp.F_law_vector.kp Tp.b_law_vector .nil pass0 (pa_cons (pv 0) (pa_cons pe_int pa_nil))) (pa_cons (pv 2) pa_nil))))))), body_W ?_ h⟩
  refine fun ds C d C' r p J hf => ?_
  obtain ⟨bs, rfl, hbs, hb, ok, rfl, rfl⟩ := r
  walk_at "norm"
  have z9 : ∀ m : Int, m.natAbs < 2 ^ 4 → m.natAbs < 2 ^ 8500 := fun m h => sz_le h (by decide)
  obtain ⟨o1, y0, y1, _⟩ := size_ok ok
  refine s_seq (s_asg (d := .t [fr (sizeM C).1.1, fr (sizeM C).1.2]) (e_draw (R := RSize) (ds := []) (C := C) (by walk_at "ev") ⟨rfl, ok, rfl, rfl⟩ hf)) ?_
  cases bs with
  | nil =>
    refine q_skip (b := false) (t_andF (t_is (p_test (p_gt (i := (([] : List PyData).length : Nat)) (j := 0) (p_len (p_cons (e_var rfl) a_nil)) e_int)) rfl)) rfl ?_
    exact s_ret (e_tup (a_cons (e_draw (R := RVec) (ds := [.i 5]) (by walk_at "ev") ⟨_, rfl, o1, by decide, sz_le (m := 3) (by decide) (by decide), rfl, rfl⟩ hf) (a_cons (e_var rfl) a_nil)) (.cons (.cons .nil)) (show 2 ≤ 100000 by decide))
  | cons b rest =>
    obtain rfl : rest = [] := by
      cases rest with
      | nil => rfl
      | cons x y => simp at hbs
    have hb := hb b List.mem_cons_self
    unfold boxG
    obtain ⟨o2, t1, t2⟩ := take_ok (C := (sizeM C).2) (m := 3) o1 (by decide)
    obtain ⟨o3, t3, t4⟩ := take_ok (C := (take (sizeM C).2 3).2) (m := 1) o2 (by decide)
    by_cases c : 0 < (take (sizeM C).2 3).1
    · simp only [if_pos c]
      refine s_stop (s_ifT (t_andT (t_is (p_test (p_gt (i := (([bxd b] : List PyData).length : Nat)) (j := 0) (p_len (p_cons (e_var rfl) a_nil)) e_int)) rfl) (t_is (t_test (e_gt (i := (take (sizeM C).2 3).1) (j := 0) (e_draw (R := RTake) (ds := [.i 3]) (by walk_at "ev") ⟨_, rfl, o1, by decide, z9 _ (by decide), rfl, rfl⟩ hf) e_int)) (decide_eq_true c))) ?_)
      have i0 : (take (take (sizeM C).2 3).2 1).1 = 0 := by omega
      exact s_ret (e_tup (a_cons (e_draw (R := RBeside) (ds := [.d (bxd b), .t [fr (sizeM C).1.1, fr (sizeM C).1.2]]) (a_cons (e_var rfl) (a_cons (e_ixL' (x := bxd b) (e_var rfl) (e_draw (R := RTake) (ds := [.i 1]) (p_cons (e_var rfl) (p_cons (e_is (p_len (ds := [bxd b]) (p_cons (e_var rfl) a_nil)) rfl) a_nil)) ⟨_, rfl, o2, by decide, z9 _ (by decide), rfl, rfl⟩ hf) (by rw [i0]; rfl)) (a_cons (e_var rfl) a_nil))) ⟨b, _, _, rfl, o3, hb, y0, y1, rfl, rfl⟩ hf) (a_cons (e_var rfl) a_nil)) (.cons (.cons .nil)) (show 2 ≤ 100000 by decide))
    · simp only [if_neg c]
      refine s_seq (s_ifF (t_andT (t_is (p_test (p_gt (i := (([bxd b] : List PyData).length : Nat)) (j := 0) (p_len (p_cons (e_var rfl) a_nil)) e_int)) rfl) (t_is (t_test (e_gt (i := (take (sizeM C).2 3).1) (j := 0) (e_draw (R := RTake) (ds := [.i 3]) (by walk_at "ev") ⟨_, rfl, o1, by decide, z9 _ (by decide), rfl, rfl⟩ hf) e_int)) (decide_eq_false c))) s_next) ?_
      exact s_ret (e_tup (a_cons (e_draw (R := RVec) (ds := [.i 5]) (by walk_at "ev") ⟨_, rfl, o2, by decide, sz_le (m := 3) (by decide) (by decide), rfl, rfl⟩ hf) (a_cons (e_var rfl) a_nil)) (.cons (.cons .nil)) (show 2 ≤ 100000 by decide))
theorem fok_law_stretch_of_times (Tp : Top K mg base) : FnOk P w K mg base CX0 7 Tp.f_law_stretch_of_times Tp.d_law_stretch_of_times ["a", "way_a", "b", "way_b"] (spP K RDueT) := by
  have G_law_moments := fok_law_moments (P := P) (w := w) (base := base) Tp
  have G_law_times := fok_law_times (P := P) (w := w) (base := base) Tp
  have G_law_over := fok_law_over (P := P) (w := w) (base := base) Tp
  have G_law_plus := fok_law_plus (P := P) (w := w) (base := base) Tp
  have G_law_put := fok_law_put (P := P) (w := w) (base := base) Tp
  refine Tp.F_law_stretch_of_times.ok sc_law_stretch_of_times (fun vs H Q E h => len_P (fun _ _ ⟨_, _, _, _, _, _, e, _⟩ => by rw [e]; rfl) h) (fun cdv A outer s H vs Q E hr h => ?_)
  refine ⟨_, (pss_cons (ps_set (i := 4) sc_law_stretch_of_times.nd rfl (.inl rfl) (pe_call G_law_moments (hr.mono (by decide)) (by rfl) Tp.g_law_moments Tp.F_law_moments.kp Tp.b_law_moments .nil pass0 (pa_cons (pv 0) (pa_cons (pv 1) (pa_cons (pv 2) (pa_cons (pv 3) pa_nil))))))
      (pss_cons (ps_set (i := 5) sc_law_stretch_of_times.nd rfl (.inl rfl) (pe_lst pa_nil))
      (pss_cons (ps_for PassesOwn.never rfl (pi_range1 (by rfl) Tp.n_range (pa_cons (pe_op op_sub (pe_callB call_len_seq (by rfl) Tp.n_len (by decide +kernel) (pa_cons (pv 4) pa_nil)) pe_int) pa_nil)) (pg_name (i := 6) sc_law_stretch_of_times.nd rfl (.inl rfl)) (pss_cons (ps_set (i := 7) sc_law_stretch_of_times.nd rfl (.inl rfl) (pe_call G_law_times (hr.mono (by decide)) (by rfl) Tp.g_law_times Tp.F_law_times.kp Tp.b_law_times .nil pass0 (pa_cons (pe_call G_law_plus (hr.mono (by decide)) (by rfl) Tp.g_law_plus Tp.F_law_plus.kp Tp.b_law_plus .nil pass0 (pa_cons (pe_ix (r := rIxL K) ix_list (pv 4) (pv 6) (fun _ _ => rfl)) (pa_cons (pe_ix (r := rIxL K) ix_list (pv 4) (pe_op op_add (pv 6) pe_int) (fun _ _ => rfl)) pa_nil))) (pa_cons (pe_tup (pa_cons pe_int (pa_cons pe_int pa_nil))) pa_nil))))
      (pss_one (ps_if (pt_val (pe_call G_law_over (hr.mono (by decide)) (by rfl) Tp.g_law_over Tp.F_law_over.kp Tp.b_law_over .nil pass0 (pa_cons (pe_call G_law_put (hr.mono (by decide)) (by rfl) Tp.g_law_put Tp.F_law_put.kp Tp.b_law_put .nil pass0 (pa_cons (pv 0) (pa_cons (pv 1) (pa_cons (pv 7) pa_nil)))) (pa_cons (pe_call G_law_put (hr.mono (by decide)) (by rfl) Tp.g_law_put Tp.F_law_put.kp Tp.b_law_put .nil pass0 (pa_cons (pv 2) (pa_cons (pv 3) (pa_cons (pv 7) pa_nil)))) pa_nil)))) (pss_one (ps_expr (pe_bm PySem.F.plainAttrs_list PySem.F.slot_list_append PySem.F.type_list_append mt_append (pv 5) (pa_cons (pv 6) pa_nil)))) pss_nil))))
      (pss_cons (ps_if (pt_cmpR op_eq (pe_callB call_len_seq (by rfl) Tp.n_len (by decide +kernel) (pa_cons (pv 5) pa_nil)) pe_int (nomark _)) (pss_one (ps_ret pe_non)) pss_nil)
      (pss_one (ps_ret (pe_tup (pa_cons (pe_ix (r := rIxL K) ix_list (pv 4) (pe_ix (r := rIxL K) ix_list (pv 5) pe_int (fun _ _ => rfl)) (fun _ _ => rfl)) (pa_cons (pe_ix (r := rIxL K) ix_list (pv 4) (pe_op op_add (pe_ix (r := rIxL K) ix_list (pv 5) (pe_un un_neg pe_int) (fun _ _ => rfl)) pe_int) (fun _ _ => rfl)) pa_nil))))))))), body_P ?_ h⟩
  refine fun ds d r I => ?_
  obtain ⟨a, b, u0, u1, v0, v1, rfl, sz, rfl⟩ := r
  walk_at "norm"
  have sA := sz.x0
  have sB := sz.x1
  refine q_asg (d := .d (.list ((msM (sx0 a b u0 v0) (sx1 a b u1 v1)).map fr))) (p_call (R := RMoms) (ds := [.d (bxd a), .d (vcd u0 u1), .d (bxd b), .d (vcd v0 v1)]) (by walk_at "ev") ⟨a, b, u0, u1, v0, v1, rfl, sz, rfl⟩) ?_
  obtain ⟨hso, h0, hlen⟩ := ms_facts sA sB
  obtain ⟨pp, hp⟩ : ∃ pp : F → Bool, pp = both (sx0 a b u0 v0) (sx1 a b u1 v1) := ⟨_, rfl⟩
  rw [← hp]
  have hpp : ∀ t, pp t = (decide ((gapM (putM a u0 u1 t).p0 (putM a u0 u1 t).s0 (putM b v0 v1 t).p0 (putM b v0 v1 t).s0).1 < 0) && decide ((gapM (putM a u0 u1 t).p1 (putM a u0 u1 t).s1 (putM b v0 v1 t).p1 (putM b v0 v1 t).s1).1 < 0)) := fun t => by
    rw [hp]
    rfl
  clear hp
  generalize msM (sx0 a b u0 v0) (sx1 a b u1 v1) = ss at *
  refine s_newL fun q hq => ?_
  have npos : 0 < ss.length := List.length_pos_of_mem h0
  refine s_seq (s_forR1 (n := ss.length - 1) (j := 6) (by omega) (fun _ => [some (.d (bxd a)), some (.d (vcd u0 u1)), some (.d (bxd b)), some (.d (vcd v0 v1)), some (.d (.list (ss.map fr))), some (.r q), none, none]) (fun i => lJ K q (((List.range i).filter fun k => pp (mid (ss.getD k (0, 1)) (ss.getD (k + 1) (0, 1)))).map natD) I) (p_cons (e_is (p_sub (i := ((ss.map fr).length : Nat)) (j := 1) (p_len (p_cons (e_var rfl) a_nil)) e_int) (by rw [List.length_map, show ((ss.length : Nat) : Int) - 1 = ((ss.length - 1 : Nat) : Int) by omega])) a_nil) rfl ?_) ?_
  · intro i hi
    have hxa := at_getD ss i (by omega)
    have hya := at_getD ss (i + 1) (by omega)
    rw [show (((i + 1 : Nat)) : Int) = (i : Int) + 1 by omega] at hya
    have ox : PL.Ok 510 (ss.getD i (0, 1)) := hso _ (getD_mem (by omega))
    have oy : PL.Ok 510 (ss.getD (i + 1) (0, 1)) := hso _ (getD_mem (by omega))
    show S K _ _ (lJ K q (((List.range i).filter fun k => pp (mid (ss.getD k (0, 1)) (ss.getD (k + 1) (0, 1)))).map natD) I) (.nx _ (lJ K q (((List.range (i + 1)).filter fun k => pp (mid (ss.getD k (0, 1)) (ss.getD (k + 1) (0, 1)))).map natD) I))
    rw [rk_succ]
    have hl : (((List.range i).filter fun k => pp (mid (ss.getD k (0, 1)) (ss.getD (k + 1) (0, 1)))).map natD).length < 100000 := by
      rw [List.length_map]
      have := List.length_filter_le (fun k => pp (mid (ss.getD k (0, 1)) (ss.getD (k + 1) (0, 1)))) (List.range i)
      rw [List.length_range] at this
      omega
    generalize (List.range i).filter (fun k => pp (mid (ss.getD k (0, 1)) (ss.getD (k + 1) (0, 1)))) = ks at *
    generalize ss.getD i (0, 1) = x at *
    generalize ss.getD (i + 1) (0, 1) = y at *
    obtain ⟨osum, ohalf, om⟩ := mid_sz ox oy
    refine s_lessN (ρ' := [some (.d (bxd a)), some (.d (vcd u0 u1)), some (.d (bxd b)), some (.d (vcd v0 v1)), some (.d (.list (ss.map fr))), some (.r q), some (.i (i : Nat)), some (.d (fr (mid x y)))]) ⟨.inr rfl, .inr rfl, .inr rfl, .inr rfl, .inr rfl, .inr rfl, .inl rfl, .inl rfl, trivial⟩ ?_
    refine q_asg (d := .d (fr (mid x y))) (p_call (R := RPlus ltimes) (ds := [.d (fr (lplus x y)), .d (fr (1, 2))]) (p_cons (p_call (R := RPlus lplus) (ds := [.d (fr x), .d (fr y)]) (p_cons (p_ixL (e_var rfl) (e_var rfl) hxa) (p_cons (p_ixL (e_var rfl) (p_add (e_var rfl) e_int) hya) a_nil)) (RPlus.mk ox oy)) (p_cons (p_frac (a := (1, 2)) (x := 1) (y := 2) (by walk_at "ev") rfl) a_nil)) (RPlus.mk osum ohalf)) ?_
    generalize mid x y = m at *
    have hm := hpp m
    by_cases c : pp m = true
    · rw [if_pos c, List.map_append]
      exact q_ifT (t_B (p_call (R := ROverB) (ds := [.d (bxd (putM a u0 u1 m)), .d (bxd (putM b v0 v1 m))]) (p_cons (p_call (R := RPut) (ds := [.d (bxd a), .d (vcd u0 u1), .d (fr m)]) (by walk_at "ev") ⟨a, _, _, _, rfl, sz.a0, sz.a1, sz.u0, sz.u1, om, rfl⟩) (p_cons (p_call (R := RPut) (ds := [.d (bxd b), .d (vcd v0 v1), .d (fr m)]) (by walk_at "ev") ⟨b, _, _, _, rfl, sz.b0, sz.b1, sz.v0, sz.v1, om, rfl⟩) a_nil)) ⟨_, _, rfl, put_sz sz.a0 sz.a1 sz.a2 sz.a3 sz.u0 sz.u1 om, put_sz sz.b0 sz.b1 sz.b2 sz.b3 sz.v0 sz.v1 om, rfl⟩)) (by rw [← hm, c]) (s_app (e_var rfl) rfl hl hq)
    · rw [if_neg c, List.append_nil]
      exact q_ifF (t_B (p_call (R := ROverB) (ds := [.d (bxd (putM a u0 u1 m)), .d (bxd (putM b v0 v1 m))]) (p_cons (p_call (R := RPut) (ds := [.d (bxd a), .d (vcd u0 u1), .d (fr m)]) (by walk_at "ev") ⟨a, _, _, _, rfl, sz.a0, sz.a1, sz.u0, sz.u1, om, rfl⟩) (p_cons (p_call (R := RPut) (ds := [.d (bxd b), .d (vcd v0 v1), .d (fr m)]) (by walk_at "ev") ⟨b, _, _, _, rfl, sz.b0, sz.b1, sz.v0, sz.v1, om, rfl⟩) a_nil)) ⟨_, _, rfl, put_sz sz.a0 sz.a1 sz.a2 sz.a3 sz.u0 sz.u1 om, put_sz sz.b0 sz.b1 sz.b2 sz.b3 sz.v0 sz.v1 om, rfl⟩)) (by rw [← hm]; exact Bool.eq_false_iff.mpr c) s_next
  refine s_pre (I' := lJ K q ((inK ss pp).map natD) I) (fun _ _ z => z) ?_
  have kmem : ∀ k ∈ inK ss pp, k + 1 < ss.length := fun k hk => by
    unfold inK at hk
    rw [List.mem_filter, List.mem_range] at hk
    omega
  unfold dueK
  generalize inK ss pp = ks at *
  refine s_freeze (i := 5) rfl hq ?_
  cases ks with
  | nil => exact s_stop (q_ifT (p_test (p_eqI (i := (([] : List PyData).length : Nat)) (j := 0) (p_len (p_cons (e_var rfl) a_nil)) e_int)) rfl (p_ret e_non))
  | cons k rest =>
    have hl : (k :: rest).getLast? = some ((k :: rest).getLast (by simp)) := List.getLast?_eq_some_getLast (by simp)
    have hm := List.getLast_mem (l := k :: rest) (by simp)
    generalize (k :: rest).getLast (by simp) = l at *
    rw [hl]
    have hkm := kmem k List.mem_cons_self
    have hlm := kmem l hm
    have h2 := at_getD ss k (by omega)
    have h4 := at_getD ss (l + 1) (by omega)
    rw [show (((l + 1 : Nat)) : Int) = (l : Int) + 1 by omega] at h4
    have h3 : atI ((k :: rest).map natD) (-1) = some (natD l) := at_last (by rw [List.getLast?_map, hl]; rfl)
    have h1 : atI ((k :: rest).map natD) 0 = some (natD k) := atI_nat (j := 0) rfl
    exact q_skip (p_test (p_eqI (i := (((k :: rest).map natD).length : Nat)) (j := 0) (p_len (p_cons (e_var rfl) a_nil)) e_int)) (decide_eq_false (by rw [List.length_map, List.length_cons]; omega)) (p_ret (p_tup2 (p_cons (p_ixL (i := (k : Nat)) (e_var rfl) (p_ixL (i := 0) (e_var rfl) e_int h1) h2) (p_cons (p_ixL (i := (l : Int) + 1) (e_var rfl) (p_add (i := (l : Nat)) (j := 1) (p_ixL (i := -1) (e_var rfl) (p_neg e_int) h3) e_int) h4) a_nil))))
theorem fok_law (Tp : Top K mg base) : FnOk P w K mg base CX0 8 Tp.f_law Tp.d_law ["script"] (spLaw K) := by
  have G_law_begin := fok_law_begin (P := P) (w := w) (base := base) Tp
  have G_law_box := fok_law_box (P := P) (w := w) (base := base) Tp
  have G_law_vector := fok_law_vector (P := P) (w := w) (base := base) Tp
  have G_law_stretch_of_times := fok_law_stretch_of_times (P := P) (w := w) (base := base) Tp
  have G_overlap_times := fok_overlap_times (P := P) (w := w) (base := base) Tp
  have G_law_take := fok_law_take (P := P) (w := w) (base := base) Tp
  have G_first_contact := fok_first_contact (P := P) (w := w) (base := base) Tp
  have G_law_times := fok_law_times (P := P) (w := w) (base := base) Tp
  have G_law_refused := fok_law_refused (P := P) (w := w) (base := base) Tp
  have G_law_plus := fok_law_plus (P := P) (w := w) (base := base) Tp
  have G_law_over := fok_law_over (P := P) (w := w) (base := base) Tp
  have G_law_put := fok_law_put (P := P) (w := w) (base := base) Tp
  refine Tp.F_law.ok sc_law (fun vs H Q E h => len_L h) (fun cdv A outer s H vs Q E hr h => ?_)
  refine ⟨_, (pss_cons (ps_set (i := 1) sc_law.nd rfl (.inl rfl) (pe_call G_law_begin (hr.mono (by decide)) (by rfl) Tp.g_law_begin Tp.F_law_begin.kp Tp.b_law_begin .nil pass0 (pa_cons (pv 0) pa_nil)))
      (pss_cons (ps_set (i := 2) sc_law.nd rfl (.inl rfl) (pe_call G_law_box (hr.mono (by decide)) (by rfl) Tp.g_law_box Tp.F_law_box.kp Tp.b_law_box .nil pass0 (pa_cons (pv 1) (pa_cons (pe_lst pa_nil) pa_nil))))
      (pss_cons (ps_set (i := 3) sc_law.nd rfl (.inl rfl) (pe_call G_law_box (hr.mono (by decide)) (by rfl) Tp.g_law_box Tp.F_law_box.kp Tp.b_law_box .nil pass0 (pa_cons (pv 1) (pa_cons (pe_lst (pa_cons (pv 2) pa_nil)) pa_nil))))
      (pss_cons (ps_set (i := 4) sc_law.nd rfl (.inl rfl) (pe_call G_law_vector (hr.mono (by decide)) (by rfl) Tp.g_law_vector Tp.F_law_vector.kp Tp.b_law_vector .nil pass0 (pa_cons (pv 1) (pa_cons pe_int pa_nil))))
      (pss_cons (ps_set (i := 5) sc_law.nd rfl (.inl rfl) (pe_call G_law_vector (hr.mono (by decide)) (by rfl) Tp.g_law_vector Tp.F_law_vector.kp Tp.b_law_vector .nil pass0 (pa_cons (pv 1) (pa_cons pe_int pa_nil))))
      (pss_cons (ps_if (pt_cmpR op_eq (pe_call G_law_take (hr.mono (by decide)) (by rfl) Tp.g_law_take Tp.F_law_take.kp Tp.b_law_take .nil pass0 (pa_cons (pv 1) (pa_cons pe_int pa_nil))) pe_int (nomark _)) (pss_one (ps_set (i := 5) sc_law.nd rfl (.inl rfl) (pe_tup (pa_cons (pe_ix (r := rIxT K) ix_tup (pv 4) pe_int (fun _ _ => rfl)) (pa_cons (pe_ix (r := rIxT K) ix_tup (pv 5) pe_int (fun _ _ => rfl)) pa_nil))))) pss_nil)
      (pss_cons (ps_if (pt_cmpR op_eq (pe_call G_law_take (hr.mono (by decide)) (by rfl) Tp.g_law_take Tp.F_law_take.kp Tp.b_law_take .nil pass0 (pa_cons (pv 1) (pa_cons pe_int pa_nil))) pe_int (nomark _)) (pss_one (ps_set (i := 5) sc_law.nd rfl (.inl rfl) (pv 4))) pss_nil)
      (pss_cons (ps_set (i := 6) sc_law.nd rfl (.inl rfl) (pe_call G_law_stretch_of_times (hr.mono (by decide)) (by rfl) Tp.g_law_stretch_of_times Tp.F_law_stretch_of_times.kp Tp.b_law_stretch_of_times .nil pass0 (pa_cons (pv 2) (pa_cons (pv 4) (pa_cons (pv 3) (pa_cons (pv 5) pa_nil))))))
      (pss_cons (ps_set (i := 7) sc_law.nd rfl (.inl rfl) (pe_call G_overlap_times (hr.mono (by decide)) (by rfl) Tp.g_overlap_times Tp.F_overlap_times.kp Tp.b_overlap_times .nil passL (pa_cons (pv 2) (pa_cons (pv 4) (pa_cons (pv 3) (pa_cons (pv 5) pa_nil))))))
      (pss_cons (ps_if (PW.pt (pw_or (pt_cmpR (op_neD hr.units) (pv 7) (pv 6) (nomark _)) (pw_or1 (pt_cmpR (op_neD hr.units) (pe_call G_overlap_times (hr.mono (by decide)) (by rfl) Tp.g_overlap_times Tp.F_overlap_times.kp Tp.b_overlap_times .nil passL (pa_cons (pv 3) (pa_cons (pv 5) (pa_cons (pv 2) (pa_cons (pv 4) pa_nil))))) (pv 6) (nomark _))))) (pss_one (ps_ret pe_bl)) pss_nil)
      (pss_cons (ps_if (pt_cmpR (op_neD hr.units) (pe_call G_first_contact (hr.mono (by decide)) (by rfl) Tp.g_first_contact Tp.F_first_contact.kp Tp.b_first_contact .nil passL (pa_cons (pv 2) (pa_cons (pv 4) (pa_cons (pv 3) (pa_cons (pv 5) pa_nil))))) (pe_ifExp (pt_cmpR op_isN (pv 6) pe_non (nomark _)) pe_non (pe_ix (r := rIxT K) ix_tup (pv 6) pe_int (fun _ _ => rfl))) (nomark _)) (pss_one (ps_ret pe_bl)) pss_nil)
      (pss_cons (ps_if (pt_cmpR op_notN (pv 7) pe_non (nomark _)) (pss_cons (ps_set (i := 8) sc_law.nd rfl (.inl rfl) (pe_call G_law_times (hr.mono (by decide)) (by rfl) Tp.g_law_times Tp.F_law_times.kp Tp.b_law_times .nil pass0 (pa_cons (pe_call G_law_plus (hr.mono (by decide)) (by rfl) Tp.g_law_plus Tp.F_law_plus.kp Tp.b_law_plus .nil pass0 (pa_cons (pe_ix (r := rIxT K) ix_tup (pv 7) pe_int (fun _ _ => rfl)) (pa_cons (pe_ix (r := rIxT K) ix_tup (pv 7) pe_int (fun _ _ => rfl)) pa_nil))) (pa_cons (pe_tup (pa_cons pe_int (pa_cons pe_int pa_nil))) pa_nil))))
      (pss_one (ps_if (pt_not (pt_val (pe_call G_law_over (hr.mono (by decide)) (by rfl) Tp.g_law_over Tp.F_law_over.kp Tp.b_law_over .nil pass0 (pa_cons (pe_call G_law_put (hr.mono (by decide)) (by rfl) Tp.g_law_put Tp.F_law_put.kp Tp.b_law_put .nil pass0 (pa_cons (pv 2) (pa_cons (pv 4) (pa_cons (pv 8) pa_nil)))) (pa_cons (pe_call G_law_put (hr.mono (by decide)) (by rfl) Tp.g_law_put Tp.F_law_put.kp Tp.b_law_put .nil pass0 (pa_cons (pv 3) (pa_cons (pv 5) (pa_cons (pv 8) pa_nil)))) pa_nil))))) (pss_one (ps_ret pe_bl)) pss_nil))) pss_nil)
      (pss_cons (ps_set (i := 9) sc_law.nd rfl (.inl rfl) (pe_tup (pa_cons (pe_ix (r := rIxT K) ix_tup (pv 2) pe_int (fun _ _ => rfl)) (pa_cons (pe_tup (pa_cons (pe_tup (pa_cons pe_int (pa_cons pe_int pa_nil))) (pa_cons (pe_tup (pa_cons pe_int (pa_cons pe_int pa_nil))) pa_nil))) pa_nil))))
      (pss_one (ps_ret (pe_and (pe_call G_law_refused (hr.mono (by decide)) (by rfl) Tp.g_law_refused Tp.F_law_refused.kp Tp.b_law_refused .nil pass0 (pa_cons (pv 9) (pa_cons (pv 3) pa_nil))) (pe_one (pe_call G_law_refused (hr.mono (by decide)) (by rfl) Tp.g_law_refused Tp.F_law_refused.kp Tp.b_law_refused .nil pass0 (pa_cons (pv 2) (pa_cons (pv 9) pa_nil)))))))))))))))))))), body_L ?_ h⟩
  refine fun ns hl => ?_
  walk_at "norm"
  refine s_begin (ns := ns) (by walk_at "ev") fun p C ok => ?_
  have nf : ¬ Asn.tt.foot p := fun z => z
  have z9 : ∀ m : Int, m.natAbs < 2 ^ 4 → m.natAbs < 2 ^ 8500 := fun m h => sz_le h (by decide)
  obtain ⟨ok1, a1, a2, a3, a4, a5⟩ := box_ok ok
  refine s_seq (s_asg (e_draw (R := RBoxG) (ds := [.d (.list [])]) (C := C) (d := .d (bxd (boxM C).1)) (C' := (boxM C).2) (a_cons (e_var rfl) (a_cons (e_lst a_nil .nil (by decide)) a_nil)) ⟨[], rfl, by decide, fun b h => by simp at h, ok, rfl, rfl⟩ nf)) ?_
  generalize (boxM C).1 = a at *
  generalize (boxM C).2 = C1 at *
  have a10 : B10 a := ⟨a1.mono (by decide), a2.mono (by decide), a3, a4⟩
  obtain ⟨ok2, b1, b2, b3, b4, b5⟩ := boxG_ok ok1 a10
  refine s_seq (s_asg (e_draw (R := RBoxG) (ds := [.d (.list [bxd a])]) (C := C1) (d := .d (bxd (boxG C1 [a]).1)) (C' := (boxG C1 [a]).2) (a_cons (e_var rfl) (a_cons (e_lst (p_cons (e_var rfl) a_nil) (.cons .nil) (show 1 ≤ 100000 by decide)) a_nil)) ⟨[a], rfl, Nat.le_refl _, fun b h => by rw [List.mem_singleton.mp h]; exact a10, ok1, rfl, rfl⟩ nf)) ?_
  generalize (boxG C1 [a]).1 = b at *
  generalize (boxG C1 [a]).2 = C2 at *
  obtain ⟨ok3, x0, x1⟩ := vec_ok (C := C2) (m := 4) (n := 3) ok2 (by decide) (by decide)
  refine s_seq (s_asg (e_draw (R := RVec) (ds := [.i 4]) (C := C2) (by walk_at "ev") ⟨_, rfl, ok2, by decide, sz_le (m := 3) (by decide) (by decide), rfl, rfl⟩ nf)) ?_
  generalize (vecM C2 4).1.1 = u0 at *
  generalize (vecM C2 4).1.2 = u1 at *
  generalize (vecM C2 4).2 = C3 at *
  obtain ⟨ok4, y0, y1⟩ := vec_ok (C := C3) (m := 4) (n := 3) ok3 (by decide) (by decide)
  refine s_seq (s_asg (e_draw (R := RVec) (ds := [.i 4]) (C := C3) (by walk_at "ev") ⟨_, rfl, ok3, by decide, sz_le (m := 3) (by decide) (by decide), rfl, rfl⟩ nf)) ?_
  generalize (vecM C3 4).1.1 = v0 at *
  generalize (vecM C3 4).1.2 = v1 at *
  generalize (vecM C3 4).2 = C4 at *
  refine s_seqX (α := F × DS) (fun z => DOk z.2 ∧ PL.Ok (3 + 2) z.1) (fun z => [some (.d (.list (ns.map PyData.int))), some (.r p), some (.d (bxd a)), some (.d (bxd b)), some (.d (vcd u0 u1)), some (.d (vcd z.1 v1)), none, none, none, none]) (fun z => dJ K p z.2 .tt) ?_ fun z hz => ?_
  · obtain ⟨oc, t1, t2⟩ := take_ok (C := C4) (m := 4) ok4 (by decide)
    by_cases c : (take C4 4).1 = 1
    · refine ⟨(u0, (take C4 4).2), ⟨oc, x0⟩, ?_⟩
      refine s_ifT (t_is (t_test (e_eqI (i := (take C4 4).1) (j := 1) (e_draw (R := RTake) (ds := [.i 4]) (by walk_at "ev") ⟨_, rfl, ok4, by decide, z9 _ (by decide), rfl, rfl⟩ nf) e_int)) (decide_eq_true c)) ?_
      exact p_asg (p_tup2 (p_cons (p_ixT (ds := [fr u0, fr u1]) (i := 0) (e_var rfl) e_int rfl) (p_cons (p_ixT (ds := [fr v0, fr v1]) (i := 1) (e_var rfl) e_int rfl) a_nil)))
    · exact ⟨(v0, (take C4 4).2), ⟨oc, y0⟩, s_ifF (t_is (t_test (e_eqI (i := (take C4 4).1) (j := 1) (e_draw (R := RTake) (ds := [.i 4]) (by walk_at "ev") ⟨_, rfl, ok4, by decide, z9 _ (by decide), rfl, rfl⟩ nf) e_int)) (decide_eq_false c)) s_next⟩
  clear y0
  obtain ⟨v0, C5⟩ := z
  obtain ⟨ok5, y0⟩ := hz
  replace ok5 : DOk C5 := ok5
  replace y0 : PL.Ok (3 + 2) v0 := y0
  refine s_seqX (α := (F × F) × DS) (fun z => DOk z.2 ∧ PL.Ok (3 + 2) z.1.1 ∧ PL.Ok (3 + 2) z.1.2) (fun z => [some (.d (.list (ns.map PyData.int))), some (.r p), some (.d (bxd a)), some (.d (bxd b)), some (.d (vcd u0 u1)), some (.d (vcd z.1.1 z.1.2)), none, none, none, none]) (fun z => dJ K p z.2 .tt) ?_ fun z hz => ?_
  · obtain ⟨oc, t1, t2⟩ := take_ok (C := C5) (m := 5) ok5 (by decide)
    by_cases c : (take C5 5).1 = 1
    · exact ⟨((u0, u1), (take C5 5).2), ⟨oc, x0, x1⟩, s_ifT (t_is (t_test (e_eqI (i := (take C5 5).1) (j := 1) (e_draw (R := RTake) (ds := [.i 5]) (by walk_at "ev") ⟨_, rfl, ok5, by decide, z9 _ (by decide), rfl, rfl⟩ nf) e_int)) (decide_eq_true c)) (p_asg (e_var rfl))⟩
    · exact ⟨((v0, v1), (take C5 5).2), ⟨oc, y0, y1⟩, s_ifF (t_is (t_test (e_eqI (i := (take C5 5).1) (j := 1) (e_draw (R := RTake) (ds := [.i 5]) (by walk_at "ev") ⟨_, rfl, ok5, by decide, z9 _ (by decide), rfl, rfl⟩ nf) e_int)) (decide_eq_false c)) s_next⟩
  clear y0 y1
  obtain ⟨⟨v0, v1⟩, C6⟩ := z
  obtain ⟨ok6, y0, y1⟩ := hz
  replace y0 : PL.Ok (3 + 2) v0 := y0
  replace y1 : PL.Ok (3 + 2) v1 := y1
  have sz : SwSz a b u0 u1 v0 v1 := ⟨a1.mono (by decide), a2.mono (by decide), a3.mono (by decide), a4.mono (by decide), b1.mono (by decide), b2.mono (by decide), b3.mono (by decide), b4.mono (by decide), x0.mono (by decide), x1.mono (by decide), y0.mono (by decide), y1.mono (by decide)⟩
  have sA := sz.x0
  have sB := sz.x1
  obtain ⟨due, dmid⟩ := sweep_due sA.ok sB.ok
  have hS : RSweep Tp.c_BoxError [.d (bxd a), .d (vcd u0 u1), .d (bxd b), .d (vcd v0 v1)] (.ok (.d (optD (sweepM (sx0 a b u0 v0) (sx1 a b u1 v1))))) := ⟨a, b, u0, u1, v0, v1, rfl, sz, .inl ⟨a5, b5, rfl⟩⟩
  have hW : RSweep Tp.c_BoxError [.d (bxd b), .d (vcd v0 v1), .d (bxd a), .d (vcd u0 u1)] (.ok (.d (optD (sweepM (sx0 a b u0 v0).swap (sx1 a b u1 v1).swap)))) := ⟨b, a, v0, v1, u0, u1, rfl, sz.swap, .inl ⟨b5, a5, rfl⟩⟩
  rw [sweep_swap sA.ok sB.ok] at hW
  have hF : RFirst Tp.c_BoxError [.d (bxd a), .d (vcd u0 u1), .d (bxd b), .d (vcd v0 v1)] (.ok (.d (timeD (sweepM (sx0 a b u0 v0) (sx1 a b u1 v1))))) := ⟨a, b, u0, u1, v0, v1, rfl, sz, a5, b5, rfl⟩
  have hD : RDueT [.d (bxd a), .d (vcd u0 u1), .d (bxd b), .d (vcd v0 v1)] (.d (optD (sweepM (sx0 a b u0 v0) (sx1 a b u1 v1)))) := ⟨a, b, u0, u1, v0, v1, rfl, sz, by rw [due]; rfl⟩
  have rsz := fun r h => sweep_sz sA sB (r := r) h
  clear due
  generalize (sweepM (sx0 a b u0 v0) (sx1 a b u1 v1)) = R at *
  refine s_pre (I' := .tt) (fun _ _ _ => trivial) ?_
  refine q_asg (d := .d (optD R)) (p_call (R := RDueT) (ds := [.d (bxd a), .d (vcd u0 u1), .d (bxd b), .d (vcd v0 v1)]) (by walk_at "ev") hD) ?_
  refine q_asg (d := .d (optD R)) (e_callX (R := RSweep Tp.c_BoxError) (ds := [.d (bxd a), .d (vcd u0 u1), .d (bxd b), .d (vcd v0 v1)]) (by walk_at "ev") hS) ?_
  refine q_skip (b := false) (t_orF (t_is (p_test (p_neD (x := optD R) (y := optD R) (e_var rfl) (e_var rfl) (shaped_opt R) (shaped_opt R))) (by rw [eqv_opt]; rfl)) (t_is (p_test (p_neD (x := optD R) (y := optD R) (e_callX (R := RSweep Tp.c_BoxError) (ds := [.d (bxd b), .d (vcd v0 v1), .d (bxd a), .d (vcd u0 u1)]) (by walk_at "ev") hW) (e_var rfl) (shaped_opt R) (shaped_opt R))) (by rw [eqv_opt]; rfl))) rfl ?_
  refine q_skip (b := false) (t_is (p_test (p_neD (x := timeD R) (y := timeD R) (e_callX (R := RFirst Tp.c_BoxError) (ds := [.d (bxd a), .d (vcd u0 u1), .d (bxd b), .d (vcd v0 v1)]) (by walk_at "ev") hF) ?_ (shaped_time R) (shaped_time R))) (by rw [eqv_time]; rfl)) rfl ?_
  · cases R with
    | none => exact e_ifT (t_is (p_test (e_isN (x := .none) (e_var rfl) e_non)) rfl) e_non
    | some s => exact e_ifF (t_is (p_test (e_isN (x := pr s) (e_var rfl) e_non)) rfl) (p_i0 (e_var rfl))
  refine s_seq (ρ1 := [some (.d (.list (ns.map PyData.int))), some (.r p), some (.d (bxd a)), some (.d (bxd b)), some (.d (vcd u0 u1)), some (.d (vcd v0 v1)), some (.d (optD R)), some (.d (optD R)), none, none]) (J := .tt) ?_ ?_
  · cases R with
    | none => exact q_ifF (p_test (e_notN (x := .none) (e_var rfl) e_non)) rfl s_next
    | some r =>
      obtain ⟨x, y⟩ := r
      obtain ⟨r1, r2⟩ := rsz _ rfl
      obtain ⟨dm, _, _⟩ := dmid _ rfl
      obtain ⟨osum, ohalf, om⟩ := mid_sz2 r1 r2
      refine s_lessN (ρ' := [some (.d (.list (ns.map PyData.int))), some (.r p), some (.d (bxd a)), some (.d (bxd b)), some (.d (vcd u0 u1)), some (.d (vcd v0 v1)), some (.d (pr (x, y))), some (.d (pr (x, y))), some (.d (fr (mid x y))), none]) ⟨.inr rfl, .inr rfl, .inr rfl, .inr rfl, .inr rfl, .inr rfl, .inr rfl, .inr rfl, .inl rfl, .inr rfl, trivial⟩ ?_
      refine q_ifT (p_test (e_notN (x := pr (x, y)) (e_var rfl) e_non)) rfl ?_
      refine q_asg (d := .d (fr (mid x y))) (p_call (R := RPlus ltimes) (ds := [.d (fr (lplus x y)), .d (fr (1, 2))]) (p_cons (p_call (R := RPlus lplus) (ds := [.d (fr x), .d (fr y)]) (p_cons (p_i0 (e_var rfl)) (p_cons (p_i1 (e_var rfl)) a_nil)) (RPlus.mk r1 r2)) (p_cons (p_frac (a := (1, 2)) (x := 1) (y := 2) (by walk_at "ev") rfl) a_nil)) (RPlus.mk osum ohalf)) ?_
      exact q_ifF (t_not (t_is (t_B (p_call (R := ROverB) (ds := [.d (bxd (putM a u0 u1 (mid x y))), .d (bxd (putM b v0 v1 (mid x y)))]) (p_cons (p_call (R := RPut) (ds := [.d (bxd a), .d (vcd u0 u1), .d (fr (mid x y))]) (by walk_at "ev") ⟨a, _, _, _, rfl, sz.a0, sz.a1, sz.u0, sz.u1, om, rfl⟩) (p_cons (p_call (R := RPut) (ds := [.d (bxd b), .d (vcd v0 v1), .d (fr (mid x y))]) (by walk_at "ev") ⟨b, _, _, _, rfl, sz.b0, sz.b1, sz.v0, sz.v1, om, rfl⟩) a_nil)) ⟨_, _, rfl, put_sz sz.a0 sz.a1 sz.a2 sz.a3 sz.u0 sz.u1 om, put_sz sz.b0 sz.b1 sz.b2 sz.b3 sz.v0 sz.v1 om, rfl⟩)) dm)) rfl s_next
  refine q_asg (d := .d (bxd ⟨a.p0, a.p1, (0, 1), (1, 1)⟩)) (p_tup2 (p_cons (p_i0 (e_var rfl)) (p_cons (p_tup2 (p_cons (p_frac (a := (0, 1)) (x := 0) (y := 1) (by walk_at "ev") rfl) (p_cons (p_frac (a := (1, 1)) (x := 1) (y := 1) (by walk_at "ev") rfl) a_nil))) a_nil))) ?_
  have zz : PL.Ok 100 ((0, 1) : F) := ok_c0 (by decide)
  have uu : PL.Ok 100 ((1, 1) : F) := ok_c1 (by decide)
  exact p_ret (e_is (e_andV (b := true) (c := true) (p_call (R := RRefS) (ds := [.d (bxd ⟨a.p0, a.p1, (0, 1), (1, 1)⟩), .d (bxd b)]) (by walk_at "ev") ⟨_, _, rfl, ⟨sz.a0, sz.a1, zz, uu, sz.b0, sz.b1, sz.b2, sz.b3, zz, zz, zz, zz⟩, rfl, rfl⟩) fun _ => p_call (R := RRefS) (ds := [.d (bxd a), .d (bxd ⟨a.p0, a.p1, (0, 1), (1, 1)⟩)]) (by walk_at "ev") ⟨_, _, rfl, ⟨sz.a0, sz.a1, sz.a2, sz.a3, sz.a0, sz.a1, zz, uu, zz, zz, zz, zz⟩, by rw [a5]; rfl, rfl⟩) rfl)
end
theorem all_mk {P : Program} {w : World} {K : PySem.W.Frag} {h : Heap} {mg : Str → Option Value} {fa : Addr} (X : K.In h) (G : h.Ns mainGlobals mg) (hfa : mg "law" = some (.ref fa))
    {f0 f1 f2 f3 f4 f5 f6 f7 f8 f9 f10 f11 f12 f13 f14 f15 f16 f17 f18 f19 f20 f21 f22 f23 f24 f25 f26 f27 f28 f29 f30 f31 f32 f33 f34 f35 f36 f37 f38 : Addr} {od0 an0 od1 an1 od2 an2 od3 an3 od4 an4 od5 an5 od6 an6 od7 an7 od8 an8 od9 an9 od10 an10 od11 an11 od12 an12 od13 an13 od14 an14 od15 an15 od16 an16 od17 an17 od18 an18 od19 an19 od20 an20 od21 an21 od22 an22 od23 an23 od24 an24 od25 an25 od26 an26 od27 an27 od28 an28 od29 an29 od30 an30 od31 an31 od32 an32 od33 an33 od34 an34 od35 an35 od36 an36 od37 an37 od38 an38 : Option Addr} {sl0 sl1 sl2 sl3 sl4 sl5 sl6 sl7 sl8 sl9 sl10 sl11 sl12 sl13 sl14 sl15 sl16 sl17 sl18 sl19 sl20 sl21 sl22 sl23 sl24 sl25 sl26 sl27 sl28 sl29 sl30 sl31 sl32 sl33 sl34 sl35 sl36 sl37 sl38 : Array (Option Value)} {oc0 kV0 dc0 pm0 cd0 ct0 oc1 kV1 dc1 pm1 cd1 ct1 oc2 kV2 dc2 pm2 cd2 ct2 oc3 kV3 dc3 pm3 cd3 ct3 oc4 kV4 dc4 pm4 cd4 ct4 oc5 kV5 dc5 pm5 cd5 ct5 oc6 kV6 dc6 pm6 cd6 ct6 oc7 kV7 dc7 pm7 cd7 ct7 oc8 kV8 dc8 pm8 cd8 ct8 oc9 kV9 dc9 pm9 cd9 ct9 oc10 kV10 dc10 pm10 cd10 ct10 oc11 kV11 dc11 pm11 cd11 ct11 oc12 kV12 dc12 pm12 cd12 ct12 oc13 kV13 dc13 pm13 cd13 ct13 oc14 kV14 dc14 pm14 cd14 ct14 oc15 kV15 dc15 pm15 cd15 ct15 oc16 kV16 dc16 pm16 cd16 ct16 oc17 kV17 dc17 pm17 cd17 ct17 oc18 kV18 dc18 pm18 cd18 ct18 oc19 kV19 dc19 pm19 cd19 ct19 oc20 kV20 dc20 pm20 cd20 ct20 oc21 kV21 dc21 pm21 cd21 ct21 oc22 kV22 dc22 pm22 cd22 ct22 oc23 kV23 dc23 pm23 cd23 ct23 oc24 kV24 dc24 pm24 cd24 ct24 oc25 kV25 dc25 pm25 cd25 ct25 oc26 kV26 dc26 pm26 cd26 ct26 oc27 kV27 dc27 pm27 cd27 ct27 oc28 kV28 dc28 pm28 cd28 ct28 oc29 kV29 dc29 pm29 cd29 ct29 oc30 kV30 dc30 pm30 cd30 ct30 oc31 kV31 dc31 pm31 cd31 ct31 oc32 kV32 dc32 pm32 cd32 ct32 oc33 kV33 dc33 pm33 cd33 ct33 oc34 kV34 dc34 pm34 cd34 ct34 oc35 kV35 dc35 pm35 cd35 ct35 oc36 kV36 dc36 pm36 cd36 ct36 oc37 kV37 dc37 pm37 cd37 ct37 oc38 kV38 dc38 pm38 cd38 ct38 : Value}
    (a0 : PySem.W.nsIn K mainGlobals "plus" = some (some (.ref f0))) (l0 : K.lookup f0 = some ⟨oc0, od0, .func (PySem.W.fnOf "plus" "plus" (defArgs s_plus) (defBody s_plus) (defScope s_plus) .none kV0 dc0 pm0 an0 cd0 ct0), sl0⟩) (c0 : PySem.W.codeIn K cd0 "plus" = true) (k0 : PySem.W.keepIn K (.ref f0) = true)
    (a1 : PySem.W.nsIn K mainGlobals "minus" = some (some (.ref f1))) (l1 : K.lookup f1 = some ⟨oc1, od1, .func (PySem.W.fnOf "minus" "minus" (defArgs s_minus) (defBody s_minus) (defScope s_minus) .none kV1 dc1 pm1 an1 cd1 ct1), sl1⟩) (c1 : PySem.W.codeIn K cd1 "minus" = true) (k1 : PySem.W.keepIn K (.ref f1) = true)
    (a2 : PySem.W.nsIn K mainGlobals "times" = some (some (.ref f2))) (l2 : K.lookup f2 = some ⟨oc2, od2, .func (PySem.W.fnOf "times" "times" (defArgs s_times) (defBody s_times) (defScope s_times) .none kV2 dc2 pm2 an2 cd2 ct2), sl2⟩) (c2 : PySem.W.codeIn K cd2 "times" = true) (k2 : PySem.W.keepIn K (.ref f2) = true)
    (a3 : PySem.W.nsIn K mainGlobals "over" = some (some (.ref f3))) (l3 : K.lookup f3 = some ⟨oc3, od3, .func (PySem.W.fnOf "over" "over" (defArgs s_over) (defBody s_over) (defScope s_over) .none kV3 dc3 pm3 an3 cd3 ct3), sl3⟩) (c3 : PySem.W.codeIn K cd3 "over" = true) (k3 : PySem.W.keepIn K (.ref f3) = true)
    (a4 : PySem.W.nsIn K mainGlobals "compare" = some (some (.ref f4))) (l4 : K.lookup f4 = some ⟨oc4, od4, .func (PySem.W.fnOf "compare" "compare" (defArgs s_compare) (defBody s_compare) (defScope s_compare) .none kV4 dc4 pm4 an4 cd4 ct4), sl4⟩) (c4 : PySem.W.codeIn K cd4 "compare" = true) (k4 : PySem.W.keepIn K (.ref f4) = true)
    (a5 : PySem.W.nsIn K mainGlobals "least" = some (some (.ref f5))) (l5 : K.lookup f5 = some ⟨oc5, od5, .func (PySem.W.fnOf "least" "least" (defArgs s_least) (defBody s_least) (defScope s_least) .none kV5 dc5 pm5 an5 cd5 ct5), sl5⟩) (c5 : PySem.W.codeIn K cd5 "least" = true) (k5 : PySem.W.keepIn K (.ref f5) = true)
    (a6 : PySem.W.nsIn K mainGlobals "greatest" = some (some (.ref f6))) (l6 : K.lookup f6 = some ⟨oc6, od6, .func (PySem.W.fnOf "greatest" "greatest" (defArgs s_greatest) (defBody s_greatest) (defScope s_greatest) .none kV6 dc6 pm6 an6 cd6 ct6), sl6⟩) (c6 : PySem.W.codeIn K cd6 "greatest" = true) (k6 : PySem.W.keepIn K (.ref f6) = true)
    (a7 : PySem.W.nsIn K mainGlobals "subtract" = some (some (.ref f7))) (l7 : K.lookup f7 = some ⟨oc7, od7, .func (PySem.W.fnOf "subtract" "subtract" (defArgs s_subtract) (defBody s_subtract) (defScope s_subtract) .none kV7 dc7 pm7 an7 cd7 ct7), sl7⟩) (c7 : PySem.W.codeIn K cd7 "subtract" = true) (k7 : PySem.W.keepIn K (.ref f7) = true)
    (a8 : PySem.W.nsIn K mainGlobals "is_sized" = some (some (.ref f8))) (l8 : K.lookup f8 = some ⟨oc8, od8, .func (PySem.W.fnOf "is_sized" "is_sized" (defArgs s_is_sized) (defBody s_is_sized) (defScope s_is_sized) .none kV8 dc8 pm8 an8 cd8 ct8), sl8⟩) (c8 : PySem.W.codeIn K cd8 "is_sized" = true) (k8 : PySem.W.keepIn K (.ref f8) = true)
    (a9 : PySem.W.nsIn K mainGlobals "check_box" = some (some (.ref f9))) (l9 : K.lookup f9 = some ⟨oc9, od9, .func (PySem.W.fnOf "check_box" "check_box" (defArgs s_check_box) (defBody s_check_box) (defScope s_check_box) .none kV9 dc9 pm9 an9 cd9 ct9), sl9⟩) (c9 : PySem.W.codeIn K cd9 "check_box" = true) (k9 : PySem.W.keepIn K (.ref f9) = true)
    (a10 : PySem.W.nsIn K mainGlobals "ends_of" = some (some (.ref f10))) (l10 : K.lookup f10 = some ⟨oc10, od10, .func (PySem.W.fnOf "ends_of" "ends_of" (defArgs s_ends_of) (defBody s_ends_of) (defScope s_ends_of) .none kV10 dc10 pm10 an10 cd10 ct10), sl10⟩) (c10 : PySem.W.codeIn K cd10 "ends_of" = true) (k10 : PySem.W.keepIn K (.ref f10) = true)
    (a11 : PySem.W.nsIn K mainGlobals "passing" = some (some (.ref f11))) (l11 : K.lookup f11 = some ⟨oc11, od11, .func (PySem.W.fnOf "passing" "passing" (defArgs s_passing) (defBody s_passing) (defScope s_passing) .none kV11 dc11 pm11 an11 cd11 ct11), sl11⟩) (c11 : PySem.W.codeIn K cd11 "passing" = true) (k11 : PySem.W.keepIn K (.ref f11) = true)
    (a12 : PySem.W.nsIn K mainGlobals "common_span" = some (some (.ref f12))) (l12 : K.lookup f12 = some ⟨oc12, od12, .func (PySem.W.fnOf "common_span" "common_span" (defArgs s_common_span) (defBody s_common_span) (defScope s_common_span) .none kV12 dc12 pm12 an12 cd12 ct12), sl12⟩) (c12 : PySem.W.codeIn K cd12 "common_span" = true) (k12 : PySem.W.keepIn K (.ref f12) = true)
    (a13 : PySem.W.nsIn K mainGlobals "overlap_times" = some (some (.ref f13))) (l13 : K.lookup f13 = some ⟨oc13, od13, .func (PySem.W.fnOf "overlap_times" "overlap_times" (defArgs s_overlap_times) (defBody s_overlap_times) (defScope s_overlap_times) .none kV13 dc13 pm13 an13 cd13 ct13), sl13⟩) (c13 : PySem.W.codeIn K cd13 "overlap_times" = true) (k13 : PySem.W.keepIn K (.ref f13) = true)
    (a14 : PySem.W.nsIn K mainGlobals "first_contact" = some (some (.ref f14))) (l14 : K.lookup f14 = some ⟨oc14, od14, .func (PySem.W.fnOf "first_contact" "first_contact" (defArgs s_first_contact) (defBody s_first_contact) (defScope s_first_contact) .none kV14 dc14 pm14 an14 cd14 ct14), sl14⟩) (c14 : PySem.W.codeIn K cd14 "first_contact" = true) (k14 : PySem.W.keepIn K (.ref f14) = true)
    (a15 : PySem.W.nsIn K mainGlobals "_law_begin" = some (some (.ref f15))) (l15 : K.lookup f15 = some ⟨oc15, od15, .func (PySem.W.fnOf "_law_begin" "_law_begin" (defArgs s_law_begin) (defBody s_law_begin) (defScope s_law_begin) .none kV15 dc15 pm15 an15 cd15 ct15), sl15⟩) (c15 : PySem.W.codeIn K cd15 "_law_begin" = true) (k15 : PySem.W.keepIn K (.ref f15) = true)
    (a16 : PySem.W.nsIn K mainGlobals "_law_take" = some (some (.ref f16))) (l16 : K.lookup f16 = some ⟨oc16, od16, .func (PySem.W.fnOf "_law_take" "_law_take" (defArgs s_law_take) (defBody s_law_take) (defScope s_law_take) .none kV16 dc16 pm16 an16 cd16 ct16), sl16⟩) (c16 : PySem.W.codeIn K cd16 "_law_take" = true) (k16 : PySem.W.keepIn K (.ref f16) = true)
    (a17 : PySem.W.nsIn K mainGlobals "_law_signed" = some (some (.ref f17))) (l17 : K.lookup f17 = some ⟨oc17, od17, .func (PySem.W.fnOf "_law_signed" "_law_signed" (defArgs s_law_signed) (defBody s_law_signed) (defScope s_law_signed) .none kV17 dc17 pm17 an17 cd17 ct17), sl17⟩) (c17 : PySem.W.codeIn K cd17 "_law_signed" = true) (k17 : PySem.W.keepIn K (.ref f17) = true)
    (a18 : PySem.W.nsIn K mainGlobals "_law_gcd" = some (some (.ref f18))) (l18 : K.lookup f18 = some ⟨oc18, od18, .func (PySem.W.fnOf "_law_gcd" "_law_gcd" (defArgs s_law_gcd) (defBody s_law_gcd) (defScope s_law_gcd) .none kV18 dc18 pm18 an18 cd18 ct18), sl18⟩) (c18 : PySem.W.codeIn K cd18 "_law_gcd" = true) (k18 : PySem.W.keepIn K (.ref f18) = true)
    (a19 : PySem.W.nsIn K mainGlobals "_law_f" = some (some (.ref f19))) (l19 : K.lookup f19 = some ⟨oc19, od19, .func (PySem.W.fnOf "_law_f" "_law_f" (defArgs s_law_f) (defBody s_law_f) (defScope s_law_f) .none kV19 dc19 pm19 an19 cd19 ct19), sl19⟩) (c19 : PySem.W.codeIn K cd19 "_law_f" = true) (k19 : PySem.W.keepIn K (.ref f19) = true)
    (a20 : PySem.W.nsIn K mainGlobals "_law_plus" = some (some (.ref f20))) (l20 : K.lookup f20 = some ⟨oc20, od20, .func (PySem.W.fnOf "_law_plus" "_law_plus" (defArgs s_law_plus) (defBody s_law_plus) (defScope s_law_plus) .none kV20 dc20 pm20 an20 cd20 ct20), sl20⟩) (c20 : PySem.W.codeIn K cd20 "_law_plus" = true) (k20 : PySem.W.keepIn K (.ref f20) = true)
    (a21 : PySem.W.nsIn K mainGlobals "_law_minus" = some (some (.ref f21))) (l21 : K.lookup f21 = some ⟨oc21, od21, .func (PySem.W.fnOf "_law_minus" "_law_minus" (defArgs s_law_minus) (defBody s_law_minus) (defScope s_law_minus) .none kV21 dc21 pm21 an21 cd21 ct21), sl21⟩) (c21 : PySem.W.codeIn K cd21 "_law_minus" = true) (k21 : PySem.W.keepIn K (.ref f21) = true)
    (a22 : PySem.W.nsIn K mainGlobals "_law_times" = some (some (.ref f22))) (l22 : K.lookup f22 = some ⟨oc22, od22, .func (PySem.W.fnOf "_law_times" "_law_times" (defArgs s_law_times) (defBody s_law_times) (defScope s_law_times) .none kV22 dc22 pm22 an22 cd22 ct22), sl22⟩) (c22 : PySem.W.codeIn K cd22 "_law_times" = true) (k22 : PySem.W.keepIn K (.ref f22) = true)
    (a23 : PySem.W.nsIn K mainGlobals "_law_less" = some (some (.ref f23))) (l23 : K.lookup f23 = some ⟨oc23, od23, .func (PySem.W.fnOf "_law_less" "_law_less" (defArgs s_law_less) (defBody s_law_less) (defScope s_law_less) .none kV23 dc23 pm23 an23 cd23 ct23), sl23⟩) (c23 : PySem.W.codeIn K cd23 "_law_less" = true) (k23 : PySem.W.keepIn K (.ref f23) = true)
    (a24 : PySem.W.nsIn K mainGlobals "_law_max" = some (some (.ref f24))) (l24 : K.lookup f24 = some ⟨oc24, od24, .func (PySem.W.fnOf "_law_max" "_law_max" (defArgs s_law_max) (defBody s_law_max) (defScope s_law_max) .none kV24 dc24 pm24 an24 cd24 ct24), sl24⟩) (c24 : PySem.W.codeIn K cd24 "_law_max" = true) (k24 : PySem.W.keepIn K (.ref f24) = true)
    (a25 : PySem.W.nsIn K mainGlobals "_law_part" = some (some (.ref f25))) (l25 : K.lookup f25 = some ⟨oc25, od25, .func (PySem.W.fnOf "_law_part" "_law_part" (defArgs s_law_part) (defBody s_law_part) (defScope s_law_part) .none kV25 dc25 pm25 an25 cd25 ct25), sl25⟩) (c25 : PySem.W.codeIn K cd25 "_law_part" = true) (k25 : PySem.W.keepIn K (.ref f25) = true)
    (a26 : PySem.W.nsIn K mainGlobals "_law_vector" = some (some (.ref f26))) (l26 : K.lookup f26 = some ⟨oc26, od26, .func (PySem.W.fnOf "_law_vector" "_law_vector" (defArgs s_law_vector) (defBody s_law_vector) (defScope s_law_vector) .none kV26 dc26 pm26 an26 cd26 ct26), sl26⟩) (c26 : PySem.W.codeIn K cd26 "_law_vector" = true) (k26 : PySem.W.keepIn K (.ref f26) = true)
    (a27 : PySem.W.nsIn K mainGlobals "_law_high" = some (some (.ref f27))) (l27 : K.lookup f27 = some ⟨oc27, od27, .func (PySem.W.fnOf "_law_high" "_law_high" (defArgs s_law_high) (defBody s_law_high) (defScope s_law_high) .none kV27 dc27 pm27 an27 cd27 ct27), sl27⟩) (c27 : PySem.W.codeIn K cd27 "_law_high" = true) (k27 : PySem.W.keepIn K (.ref f27) = true)
    (a28 : PySem.W.nsIn K mainGlobals "_law_gap" = some (some (.ref f28))) (l28 : K.lookup f28 = some ⟨oc28, od28, .func (PySem.W.fnOf "_law_gap" "_law_gap" (defArgs s_law_gap) (defBody s_law_gap) (defScope s_law_gap) .none kV28 dc28 pm28 an28 cd28 ct28), sl28⟩) (c28 : PySem.W.codeIn K cd28 "_law_gap" = true) (k28 : PySem.W.keepIn K (.ref f28) = true)
    (a29 : PySem.W.nsIn K mainGlobals "_law_over" = some (some (.ref f29))) (l29 : K.lookup f29 = some ⟨oc29, od29, .func (PySem.W.fnOf "_law_over" "_law_over" (defArgs s_law_over) (defBody s_law_over) (defScope s_law_over) .none kV29 dc29 pm29 an29 cd29 ct29), sl29⟩) (c29 : PySem.W.codeIn K cd29 "_law_over" = true) (k29 : PySem.W.keepIn K (.ref f29) = true)
    (a30 : PySem.W.nsIn K mainGlobals "_law_size" = some (some (.ref f30))) (l30 : K.lookup f30 = some ⟨oc30, od30, .func (PySem.W.fnOf "_law_size" "_law_size" (defArgs s_law_size) (defBody s_law_size) (defScope s_law_size) .none kV30 dc30 pm30 an30 cd30 ct30), sl30⟩) (c30 : PySem.W.codeIn K cd30 "_law_size" = true) (k30 : PySem.W.keepIn K (.ref f30) = true)
    (a31 : PySem.W.nsIn K mainGlobals "_law_beside" = some (some (.ref f31))) (l31 : K.lookup f31 = some ⟨oc31, od31, .func (PySem.W.fnOf "_law_beside" "_law_beside" (defArgs s_law_beside) (defBody s_law_beside) (defScope s_law_beside) .none kV31 dc31 pm31 an31 cd31 ct31), sl31⟩) (c31 : PySem.W.codeIn K cd31 "_law_beside" = true) (k31 : PySem.W.keepIn K (.ref f31) = true)
    (a32 : PySem.W.nsIn K mainGlobals "_law_box" = some (some (.ref f32))) (l32 : K.lookup f32 = some ⟨oc32, od32, .func (PySem.W.fnOf "_law_box" "_law_box" (defArgs s_law_box) (defBody s_law_box) (defScope s_law_box) .none kV32 dc32 pm32 an32 cd32 ct32), sl32⟩) (c32 : PySem.W.codeIn K cd32 "_law_box" = true) (k32 : PySem.W.keepIn K (.ref f32) = true)
    (a33 : PySem.W.nsIn K mainGlobals "_law_put" = some (some (.ref f33))) (l33 : K.lookup f33 = some ⟨oc33, od33, .func (PySem.W.fnOf "_law_put" "_law_put" (defArgs s_law_put) (defBody s_law_put) (defScope s_law_put) .none kV33 dc33 pm33 an33 cd33 ct33), sl33⟩) (c33 : PySem.W.codeIn K cd33 "_law_put" = true) (k33 : PySem.W.keepIn K (.ref f33) = true)
    (a34 : PySem.W.nsIn K mainGlobals "_law_sorted" = some (some (.ref f34))) (l34 : K.lookup f34 = some ⟨oc34, od34, .func (PySem.W.fnOf "_law_sorted" "_law_sorted" (defArgs s_law_sorted) (defBody s_law_sorted) (defScope s_law_sorted) .none kV34 dc34 pm34 an34 cd34 ct34), sl34⟩) (c34 : PySem.W.codeIn K cd34 "_law_sorted" = true) (k34 : PySem.W.keepIn K (.ref f34) = true)
    (a35 : PySem.W.nsIn K mainGlobals "_law_moments" = some (some (.ref f35))) (l35 : K.lookup f35 = some ⟨oc35, od35, .func (PySem.W.fnOf "_law_moments" "_law_moments" (defArgs s_law_moments) (defBody s_law_moments) (defScope s_law_moments) .none kV35 dc35 pm35 an35 cd35 ct35), sl35⟩) (c35 : PySem.W.codeIn K cd35 "_law_moments" = true) (k35 : PySem.W.keepIn K (.ref f35) = true)
    (a36 : PySem.W.nsIn K mainGlobals "_law_stretch_of_times" = some (some (.ref f36))) (l36 : K.lookup f36 = some ⟨oc36, od36, .func (PySem.W.fnOf "_law_stretch_of_times" "_law_stretch_of_times" (defArgs s_law_stretch_of_times) (defBody s_law_stretch_of_times) (defScope s_law_stretch_of_times) .none kV36 dc36 pm36 an36 cd36 ct36), sl36⟩) (c36 : PySem.W.codeIn K cd36 "_law_stretch_of_times" = true) (k36 : PySem.W.keepIn K (.ref f36) = true)
    (a37 : PySem.W.nsIn K mainGlobals "_law_refused" = some (some (.ref f37))) (l37 : K.lookup f37 = some ⟨oc37, od37, .func (PySem.W.fnOf "_law_refused" "_law_refused" (defArgs s_law_refused) (defBody s_law_refused) (defScope s_law_refused) .none kV37 dc37 pm37 an37 cd37 ct37), sl37⟩) (c37 : PySem.W.codeIn K cd37 "_law_refused" = true) (k37 : PySem.W.keepIn K (.ref f37) = true)
    (a38 : PySem.W.nsIn K mainGlobals "law" = some (some (.ref f38))) (l38 : K.lookup f38 = some ⟨oc38, od38, .func (PySem.W.fnOf "law" "law" (defArgs s_law) (defBody s_law) (defScope s_law) .none kV38 dc38 pm38 an38 cd38 ct38), sl38⟩) (c38 : PySem.W.codeIn K cd38 "law" = true) (k38 : PySem.W.keepIn K (.ref f38) = true)
    {kk_ZERO : Addr} {kd_ZERO : Option Addr} {ksl_ZERO : Array (Option Value)} {kn_ZERO : Nat} {kt_ZERO_0 kt_ZERO_1 : Tok}
    (ka_ZERO : PySem.W.nsIn K mainGlobals "ZERO" = some (some (.ref kk_ZERO))) (kl_ZERO : K.lookup kk_ZERO = some ⟨.type "tuple", kd_ZERO, .seq #[.int 0 kt_ZERO_0, .int 1 kt_ZERO_1] kn_ZERO, ksl_ZERO⟩)
    {kk_ONE : Addr} {kd_ONE : Option Addr} {ksl_ONE : Array (Option Value)} {kn_ONE : Nat} {kt_ONE_0 kt_ONE_1 : Tok}
    (ka_ONE : PySem.W.nsIn K mainGlobals "ONE" = some (some (.ref kk_ONE))) (kl_ONE : K.lookup kk_ONE = some ⟨.type "tuple", kd_ONE, .seq #[.int 1 kt_ONE_0, .int 1 kt_ONE_1] kn_ONE, ksl_ONE⟩)
    {xx_ZeroDenominator xx_BoxError : Addr}
    (ea_ZeroDenominator : PySem.W.nsIn K mainGlobals "ZeroDenominator" = some (some (.ref xx_ZeroDenominator))) (ex_ZeroDenominator : PySem.W.excIn K xx_ZeroDenominator [.type "ValueError", .type "Exception", .type "BaseException", .type "object"] "ValueError.__new__" = true) (ek_ZeroDenominator : PySem.W.keepIn K (.ref xx_ZeroDenominator) = true) (eb_ZeroDenominator : PySem.W.subIn K (.ref xx_ZeroDenominator) (.type "BaseException") = some true) (et_ZeroDenominator : PySem.W.typeIn K (.ref xx_ZeroDenominator) = some (.type "type")) (eh_ZeroDenominator : PySem.W.hasDictIn K xx_ZeroDenominator = true)
    (ea_BoxError : PySem.W.nsIn K mainGlobals "BoxError" = some (some (.ref xx_BoxError))) (ex_BoxError : PySem.W.excIn K xx_BoxError [.type "ValueError", .type "Exception", .type "BaseException", .type "object"] "ValueError.__new__" = true) (ek_BoxError : PySem.W.keepIn K (.ref xx_BoxError) = true) (eb_BoxError : PySem.W.subIn K (.ref xx_BoxError) (.type "BaseException") = some true) (et_BoxError : PySem.W.typeIn K (.ref xx_BoxError) = some (.type "type")) (eh_BoxError : PySem.W.hasDictIn K xx_BoxError = true)
    (es_ZeroDenominator_ZeroDenominator : PySem.W.subIn K (.ref xx_ZeroDenominator) (.ref xx_ZeroDenominator) = some true)
    (es_BoxError_BoxError : PySem.W.subIn K (.ref xx_BoxError) (.ref xx_BoxError) = some true)
    (z_abs : PySem.W.nsIn K mainGlobals "abs" = some none)
    (z_int : PySem.W.nsIn K mainGlobals "int" = some none)
    (z_len : PySem.W.nsIn K mainGlobals "len" = some none)
    (z_list : PySem.W.nsIn K mainGlobals "list" = some none)
    (z_range : PySem.W.nsIn K mainGlobals "range" = some none)
    (z_zip : PySem.W.nsIn K mainGlobals "zip" = some none)
    (z_gcd : PySem.W.nsIn K mainGlobals "gcd" = some (some (.builtin "math.gcd"))) :
    ∃ fd : FuncData, (∀ (s : Shared) (v : Value), BindsTo s fd ⟨[v], []⟩ [("script", v)]) ∧ ∀ base : Heap, K.In base → base.Ns mainGlobals mg → FnOk P w K mg base CX0 8 fa fd ["script"] (spLaw K) := by
  have e := hfa.symm.trans (PySem.W.mg_of X G a38)
  have e : fa = f38 := by cases e; rfl
  have F0 := fun_mk (st := s_plus) l0 c0 k0
  have b0 := F0.binds (ps := ["a", "b"]) fun _ _ _ _ _ _ us hl => match us, hl with | [_, _], _ => rfl
  have F1 := fun_mk (st := s_minus) l1 c1 k1
  have b1 := F1.binds (ps := ["a", "b"]) fun _ _ _ _ _ _ us hl => match us, hl with | [_, _], _ => rfl
  have F2 := fun_mk (st := s_times) l2 c2 k2
  have b2 := F2.binds (ps := ["a", "b"]) fun _ _ _ _ _ _ us hl => match us, hl with | [_, _], _ => rfl
  have F3 := fun_mk (st := s_over) l3 c3 k3
  have b3 := F3.binds (ps := ["a", "b"]) fun _ _ _ _ _ _ us hl => match us, hl with | [_, _], _ => rfl
  have F4 := fun_mk (st := s_compare) l4 c4 k4
  have b4 := F4.binds (ps := ["a", "b"]) fun _ _ _ _ _ _ us hl => match us, hl with | [_, _], _ => rfl
  have F5 := fun_mk (st := s_least) l5 c5 k5
  have b5 := F5.binds (ps := ["items"]) fun _ _ _ _ _ _ us hl => match us, hl with | [_], _ => rfl
  have F6 := fun_mk (st := s_greatest) l6 c6 k6
  have b6 := F6.binds (ps := ["items"]) fun _ _ _ _ _ _ us hl => match us, hl with | [_], _ => rfl
  have F7 := fun_mk (st := s_subtract) l7 c7 k7
  have b7 := F7.binds (ps := ["a", "b"]) fun _ _ _ _ _ _ us hl => match us, hl with | [_, _], _ => rfl
  have F8 := fun_mk (st := s_is_sized) l8 c8 k8
  have b8 := F8.binds (ps := ["size"]) fun _ _ _ _ _ _ us hl => match us, hl with | [_], _ => rfl
  have F9 := fun_mk (st := s_check_box) l9 c9 k9
  have b9 := F9.binds (ps := ["box"]) fun _ _ _ _ _ _ us hl => match us, hl with | [_], _ => rfl
  have F10 := fun_mk (st := s_ends_of) l10 c10 k10
  have b10 := F10.binds (ps := ["box"]) fun _ _ _ _ _ _ us hl => match us, hl with | [_], _ => rfl
  have F11 := fun_mk (st := s_passing) l11 c11 k11
  have b11 := F11.binds (ps := ["low", "high", "way"]) fun _ _ _ _ _ _ us hl => match us, hl with | [_, _, _], _ => rfl
  have F12 := fun_mk (st := s_common_span) l12 c12 k12
  have b12 := F12.binds (ps := ["spans"]) fun _ _ _ _ _ _ us hl => match us, hl with | [_], _ => rfl
  have F13 := fun_mk (st := s_overlap_times) l13 c13 k13
  have b13 := F13.binds (ps := ["a", "move_a", "b", "move_b"]) fun _ _ _ _ _ _ us hl => match us, hl with | [_, _, _, _], _ => rfl
  have F14 := fun_mk (st := s_first_contact) l14 c14 k14
  have b14 := F14.binds (ps := ["a", "move_a", "b", "move_b"]) fun _ _ _ _ _ _ us hl => match us, hl with | [_, _, _, _], _ => rfl
  have F15 := fun_mk (st := s_law_begin) l15 c15 k15
  have b15 := F15.binds (ps := ["script"]) fun _ _ _ _ _ _ us hl => match us, hl with | [_], _ => rfl
  have F16 := fun_mk (st := s_law_take) l16 c16 k16
  have b16 := F16.binds (ps := ["d", "many"]) fun _ _ _ _ _ _ us hl => match us, hl with | [_, _], _ => rfl
  have F17 := fun_mk (st := s_law_signed) l17 c17 k17
  have b17 := F17.binds (ps := ["d", "most"]) fun _ _ _ _ _ _ us hl => match us, hl with | [_, _], _ => rfl
  have F18 := fun_mk (st := s_law_gcd) l18 c18 k18
  have b18 := F18.binds (ps := ["a", "b"]) fun _ _ _ _ _ _ us hl => match us, hl with | [_, _], _ => rfl
  have F19 := fun_mk (st := s_law_f) l19 c19 k19
  have b19 := F19.binds (ps := ["a", "b"]) fun _ _ _ _ _ _ us hl => match us, hl with | [_, _], _ => rfl
  have F20 := fun_mk (st := s_law_plus) l20 c20 k20
  have b20 := F20.binds (ps := ["a", "b"]) fun _ _ _ _ _ _ us hl => match us, hl with | [_, _], _ => rfl
  have F21 := fun_mk (st := s_law_minus) l21 c21 k21
  have b21 := F21.binds (ps := ["a", "b"]) fun _ _ _ _ _ _ us hl => match us, hl with | [_, _], _ => rfl
  have F22 := fun_mk (st := s_law_times) l22 c22 k22
  have b22 := F22.binds (ps := ["a", "b"]) fun _ _ _ _ _ _ us hl => match us, hl with | [_, _], _ => rfl
  have F23 := fun_mk (st := s_law_less) l23 c23 k23
  have b23 := F23.binds (ps := ["a", "b"]) fun _ _ _ _ _ _ us hl => match us, hl with | [_, _], _ => rfl
  have F24 := fun_mk (st := s_law_max) l24 c24 k24
  have b24 := F24.binds (ps := ["a", "b"]) fun _ _ _ _ _ _ us hl => match us, hl with | [_, _], _ => rfl
  have F25 := fun_mk (st := s_law_part) l25 c25 k25
  have b25 := F25.binds (ps := ["d", "most"]) fun _ _ _ _ _ _ us hl => match us, hl with | [_, _], _ => rfl
  have F26 := fun_mk (st := s_law_vector) l26 c26 k26
  have b26 := F26.binds (ps := ["d", "most"]) fun _ _ _ _ _ _ us hl => match us, hl with | [_, _], _ => rfl
  have F27 := fun_mk (st := s_law_high) l27 c27 k27
  have b27 := F27.binds (ps := ["box", "k"]) fun _ _ _ _ _ _ us hl => match us, hl with | [_, _], _ => rfl
  have F28 := fun_mk (st := s_law_gap) l28 c28 k28
  have b28 := F28.binds (ps := ["a", "b", "k"]) fun _ _ _ _ _ _ us hl => match us, hl with | [_, _, _], _ => rfl
  have F29 := fun_mk (st := s_law_over) l29 c29 k29
  have b29 := F29.binds (ps := ["a", "b"]) fun _ _ _ _ _ _ us hl => match us, hl with | [_, _], _ => rfl
  have F30 := fun_mk (st := s_law_size) l30 c30 k30
  have b30 := F30.binds (ps := ["d"]) fun _ _ _ _ _ _ us hl => match us, hl with | [_], _ => rfl
  have F31 := fun_mk (st := s_law_beside) l31 c31 k31
  have b31 := F31.binds (ps := ["d", "box", "size"]) fun _ _ _ _ _ _ us hl => match us, hl with | [_, _, _], _ => rfl
  have F32 := fun_mk (st := s_law_box) l32 c32 k32
  have b32 := F32.binds (ps := ["d", "boxes"]) fun _ _ _ _ _ _ us hl => match us, hl with | [_, _], _ => rfl
  have F33 := fun_mk (st := s_law_put) l33 c33 k33
  have b33 := F33.binds (ps := ["a", "way", "t"]) fun _ _ _ _ _ _ us hl => match us, hl with | [_, _, _], _ => rfl
  have F34 := fun_mk (st := s_law_sorted) l34 c34 k34
  have b34 := F34.binds (ps := ["items"]) fun _ _ _ _ _ _ us hl => match us, hl with | [_], _ => rfl
  have F35 := fun_mk (st := s_law_moments) l35 c35 k35
  have b35 := F35.binds (ps := ["a", "way_a", "b", "way_b"]) fun _ _ _ _ _ _ us hl => match us, hl with | [_, _, _, _], _ => rfl
  have F36 := fun_mk (st := s_law_stretch_of_times) l36 c36 k36
  have b36 := F36.binds (ps := ["a", "way_a", "b", "way_b"]) fun _ _ _ _ _ _ us hl => match us, hl with | [_, _, _, _], _ => rfl
  have F37 := fun_mk (st := s_law_refused) l37 c37 k37
  have b37 := F37.binds (ps := ["a", "b"]) fun _ _ _ _ _ _ us hl => match us, hl with | [_, _], _ => rfl
  have F38 := fun_mk (st := s_law) l38 c38 k38
  have b38 := F38.binds (ps := ["script"]) fun _ _ _ _ _ _ us hl => match us, hl with | [_], _ => rfl
  refine ⟨PySem.W.fnOf "law" "law" (defArgs s_law) (defBody s_law) (defScope s_law) .none kV38 dc38 pm38 an38 cd38 ct38, fun s v => .of_eq rfl, fun base _ _ => ?_⟩
  let Tp : Top K mg base := {
    f_plus := f0, d_plus := _, F_plus := F0, g_plus := PySem.W.mg_of X G a0, b_plus := b0,
    f_minus := f1, d_minus := _, F_minus := F1, g_minus := PySem.W.mg_of X G a1, b_minus := b1,
    f_times := f2, d_times := _, F_times := F2, g_times := PySem.W.mg_of X G a2, b_times := b2,
    f_over := f3, d_over := _, F_over := F3, g_over := PySem.W.mg_of X G a3, b_over := b3,
    f_compare := f4, d_compare := _, F_compare := F4, g_compare := PySem.W.mg_of X G a4, b_compare := b4,
    f_least := f5, d_least := _, F_least := F5, g_least := PySem.W.mg_of X G a5, b_least := b5,
    f_greatest := f6, d_greatest := _, F_greatest := F6, g_greatest := PySem.W.mg_of X G a6, b_greatest := b6,
    f_subtract := f7, d_subtract := _, F_subtract := F7, g_subtract := PySem.W.mg_of X G a7, b_subtract := b7,
    f_is_sized := f8, d_is_sized := _, F_is_sized := F8, g_is_sized := PySem.W.mg_of X G a8, b_is_sized := b8,
    f_check_box := f9, d_check_box := _, F_check_box := F9, g_check_box := PySem.W.mg_of X G a9, b_check_box := b9,
    f_ends_of := f10, d_ends_of := _, F_ends_of := F10, g_ends_of := PySem.W.mg_of X G a10, b_ends_of := b10,
    f_passing := f11, d_passing := _, F_passing := F11, g_passing := PySem.W.mg_of X G a11, b_passing := b11,
    f_common_span := f12, d_common_span := _, F_common_span := F12, g_common_span := PySem.W.mg_of X G a12, b_common_span := b12,
    f_overlap_times := f13, d_overlap_times := _, F_overlap_times := F13, g_overlap_times := PySem.W.mg_of X G a13, b_overlap_times := b13,
    f_first_contact := f14, d_first_contact := _, F_first_contact := F14, g_first_contact := PySem.W.mg_of X G a14, b_first_contact := b14,
    f_law_begin := f15, d_law_begin := _, F_law_begin := F15, g_law_begin := PySem.W.mg_of X G a15, b_law_begin := b15,
    f_law_take := f16, d_law_take := _, F_law_take := F16, g_law_take := PySem.W.mg_of X G a16, b_law_take := b16,
    f_law_signed := f17, d_law_signed := _, F_law_signed := F17, g_law_signed := PySem.W.mg_of X G a17, b_law_signed := b17,
    f_law_gcd := f18, d_law_gcd := _, F_law_gcd := F18, g_law_gcd := PySem.W.mg_of X G a18, b_law_gcd := b18,
    f_law_f := f19, d_law_f := _, F_law_f := F19, g_law_f := PySem.W.mg_of X G a19, b_law_f := b19,
    f_law_plus := f20, d_law_plus := _, F_law_plus := F20, g_law_plus := PySem.W.mg_of X G a20, b_law_plus := b20,
    f_law_minus := f21, d_law_minus := _, F_law_minus := F21, g_law_minus := PySem.W.mg_of X G a21, b_law_minus := b21,
    f_law_times := f22, d_law_times := _, F_law_times := F22, g_law_times := PySem.W.mg_of X G a22, b_law_times := b22,
    f_law_less := f23, d_law_less := _, F_law_less := F23, g_law_less := PySem.W.mg_of X G a23, b_law_less := b23,
    f_law_max := f24, d_law_max := _, F_law_max := F24, g_law_max := PySem.W.mg_of X G a24, b_law_max := b24,
    f_law_part := f25, d_law_part := _, F_law_part := F25, g_law_part := PySem.W.mg_of X G a25, b_law_part := b25,
    f_law_vector := f26, d_law_vector := _, F_law_vector := F26, g_law_vector := PySem.W.mg_of X G a26, b_law_vector := b26,
    f_law_high := f27, d_law_high := _, F_law_high := F27, g_law_high := PySem.W.mg_of X G a27, b_law_high := b27,
    f_law_gap := f28, d_law_gap := _, F_law_gap := F28, g_law_gap := PySem.W.mg_of X G a28, b_law_gap := b28,
    f_law_over := f29, d_law_over := _, F_law_over := F29, g_law_over := PySem.W.mg_of X G a29, b_law_over := b29,
    f_law_size := f30, d_law_size := _, F_law_size := F30, g_law_size := PySem.W.mg_of X G a30, b_law_size := b30,
    f_law_beside := f31, d_law_beside := _, F_law_beside := F31, g_law_beside := PySem.W.mg_of X G a31, b_law_beside := b31,
    f_law_box := f32, d_law_box := _, F_law_box := F32, g_law_box := PySem.W.mg_of X G a32, b_law_box := b32,
    f_law_put := f33, d_law_put := _, F_law_put := F33, g_law_put := PySem.W.mg_of X G a33, b_law_put := b33,
    f_law_sorted := f34, d_law_sorted := _, F_law_sorted := F34, g_law_sorted := PySem.W.mg_of X G a34, b_law_sorted := b34,
    f_law_moments := f35, d_law_moments := _, F_law_moments := F35, g_law_moments := PySem.W.mg_of X G a35, b_law_moments := b35,
    f_law_stretch_of_times := f36, d_law_stretch_of_times := _, F_law_stretch_of_times := F36, g_law_stretch_of_times := PySem.W.mg_of X G a36, b_law_stretch_of_times := b36,
    f_law_refused := f37, d_law_refused := _, F_law_refused := F37, g_law_refused := PySem.W.mg_of X G a37, b_law_refused := b37,
    f_law := f38, d_law := _, F_law := F38, g_law := PySem.W.mg_of X G a38, b_law := b38,
    k_ZERO := kk_ZERO, gk_ZERO := PySem.W.mg_of X G ka_ZERO, dk_ZERO := const_t kl_ZERO rfl rfl (show 2 ≤ 100 by decide) (.cons ⟨_, rfl⟩ (.cons ⟨_, rfl⟩ .nil)),
    k_ONE := kk_ONE, gk_ONE := PySem.W.mg_of X G ka_ONE, dk_ONE := const_t kl_ONE rfl rfl (show 2 ≤ 100 by decide) (.cons ⟨_, rfl⟩ (.cons ⟨_, rfl⟩ .nil)),
    c_ZeroDenominator := xx_ZeroDenominator, gc_ZeroDenominator := PySem.W.mg_of X G ea_ZeroDenominator, xc_ZeroDenominator := ex_ZeroDenominator, kc_ZeroDenominator := ek_ZeroDenominator, bc_ZeroDenominator := eb_ZeroDenominator, tc_ZeroDenominator := et_ZeroDenominator, hc_ZeroDenominator := eh_ZeroDenominator,
    c_BoxError := xx_BoxError, gc_BoxError := PySem.W.mg_of X G ea_BoxError, xc_BoxError := ex_BoxError, kc_BoxError := ek_BoxError, bc_BoxError := eb_BoxError, tc_BoxError := et_BoxError, hc_BoxError := eh_BoxError,
    ac_ZeroDenominator_ZeroDenominator := es_ZeroDenominator_ZeroDenominator,
    ac_BoxError_BoxError := es_BoxError_BoxError,
    n_abs := PySem.W.mg_none_of X G z_abs, n_int := PySem.W.mg_none_of X G z_int, n_len := PySem.W.mg_none_of X G z_len, n_list := PySem.W.mg_none_of X G z_list, n_range := PySem.W.mg_none_of X G z_range, n_zip := PySem.W.mg_none_of X G z_zip, n_gcd := PySem.W.mg_of X G z_gcd }
  rw [e]
  exact fok_law (P := P) (w := w) (base := base) Tp
end W
open PySem PySem.W PyProof.Rows
set_option maxHeartbeats 0 in
theorem PySem.Challenge.cw_steadybodies_k05_times_of_overlap_holds : PySem.Challenge.rw_steadybodies_k05_times_of_overlap.Holds := by
  w_on; o_law; k_head; (case hw => w_witness2)
  k_fill
  refine L2.walk_of (l := PySem.Challenge.rw_steadybodies_k05_times_of_overlap) (n := 63) (k := 8) (x := "script") (CX := fun _ => L2.CX0) (sp := fun w => PL.spLaw _) rfl (by decide) rfl ⟨rfl, by decide, by decide⟩ (fun w h Y => PySem.W.kIn_of Y) ?F (fun _ _ a ns hl _ hS => ⟨a, ns, rfl, hS, hl, fun _ => rfl⟩) (fun _ _ _ _ _ h => h)
  case F =>
    intro w mg fa h KX G hmg
    refine' W.all_mk KX G hmg ?a0 ?l0 ?c0 ?k0 ?a1 ?l1 ?c1 ?k1 ?a2 ?l2 ?c2 ?k2 ?a3 ?l3 ?c3 ?k3 ?a4 ?l4 ?c4 ?k4 ?a5 ?l5 ?c5 ?k5 ?a6 ?l6 ?c6 ?k6 ?a7 ?l7 ?c7 ?k7 ?a8 ?l8 ?c8 ?k8 ?a9 ?l9 ?c9 ?k9 ?a10 ?l10 ?c10 ?k10 ?a11 ?l11 ?c11 ?k11 ?a12 ?l12 ?c12 ?k12 ?a13 ?l13 ?c13 ?k13 ?a14 ?l14 ?c14 ?k14 ?a15 ?l15 ?c15 ?k15 ?a16 ?l16 ?c16 ?k16 ?a17 ?l17 ?c17 ?k17 ?a18 ?l18 ?c18 ?k18 ?a19 ?l19 ?c19 ?k19 ?a20 ?l20 ?c20 ?k20 ?a21 ?l21 ?c21 ?k21 ?a22 ?l22 ?c22 ?k22 ?a23 ?l23 ?c23 ?k23 ?a24 ?l24 ?c24 ?k24 ?a25 ?l25 ?c25 ?k25 ?a26 ?l26 ?c26 ?k26 ?a27 ?l27 ?c27 ?k27 ?a28 ?l28 ?c28 ?k28 ?a29 ?l29 ?c29 ?k29 ?a30 ?l30 ?c30 ?k30 ?a31 ?l31 ?c31 ?k31 ?a32 ?l32 ?c32 ?k32 ?a33 ?l33 ?c33 ?k33 ?a34 ?l34 ?c34 ?k34 ?a35 ?l35 ?c35 ?k35 ?a36 ?l36 ?c36 ?k36 ?a37 ?l37 ?c37 ?k37 ?a38 ?l38 ?c38 ?k38 ?ka_ZERO ?kl_ZERO ?ka_ONE ?kl_ONE ?ea_ZeroDenominator ?ex_ZeroDenominator ?ek_ZeroDenominator ?eb_ZeroDenominator ?et_ZeroDenominator ?eh_ZeroDenominator ?ea_BoxError ?ex_BoxError ?ek_BoxError ?eb_BoxError ?et_BoxError ?eh_BoxError ?es_ZeroDenominator_ZeroDenominator ?es_BoxError_BoxError ?z_abs ?z_int ?z_len ?z_list ?z_range ?z_zip ?z_gcd
    (case a0 => k_is); (case l0 => k_is); (case c0 => k_is); (case k0 => k_is); (case a1 => k_is); (case l1 => k_is); (case c1 => k_is); (case k1 => k_is); (case a2 => k_is); (case l2 => k_is); (case c2 => k_is); (case k2 => k_is); (case a3 => k_is); (case l3 => k_is); (case c3 => k_is); (case k3 => k_is); (case a4 => k_is); (case l4 => k_is); (case c4 => k_is); (case k4 => k_is); (case a5 => k_is); (case l5 => k_is); (case c5 => k_is); (case k5 => k_is); (case a6 => k_is); (case l6 => k_is); (case c6 => k_is); (case k6 => k_is); (case a7 => k_is); (case l7 => k_is); (case c7 => k_is); (case k7 => k_is); (case a8 => k_is); (case l8 => k_is); (case c8 => k_is); (case k8 => k_is); (case a9 => k_is); (case l9 => k_is); (case c9 => k_is); (case k9 => k_is); (case a10 => k_is); (case l10 => k_is); (case c10 => k_is); (case k10 => k_is); (case a11 => k_is); (case l11 => k_is); (case c11 => k_is); (case k11 => k_is); (case a12 => k_is); (case l12 => k_is); (case c12 => k_is); (case k12 => k_is); (case a13 => k_is); (case l13 => k_is); (case c13 => k_is); (case k13 => k_is); (case a14 => k_is); (case l14 => k_is); (case c14 => k_is); (case k14 => k_is); (case a15 => k_is); (case l15 => k_is); (case c15 => k_is); (case k15 => k_is); (case a16 => k_is); (case l16 => k_is); (case c16 => k_is); (case k16 => k_is); (case a17 => k_is); (case l17 => k_is); (case c17 => k_is); (case k17 => k_is); (case a18 => k_is); (case l18 => k_is); (case c18 => k_is); (case k18 => k_is); (case a19 => k_is); (case l19 => k_is); (case c19 => k_is); (case k19 => k_is); (case a20 => k_is); (case l20 => k_is); (case c20 => k_is); (case k20 => k_is); (case a21 => k_is); (case l21 => k_is); (case c21 => k_is); (case k21 => k_is); (case a22 => k_is); (case l22 => k_is); (case c22 => k_is); (case k22 => k_is); (case a23 => k_is); (case l23 => k_is); (case c23 => k_is); (case k23 => k_is); (case a24 => k_is); (case l24 => k_is); (case c24 => k_is); (case k24 => k_is); (case a25 => k_is); (case l25 => k_is); (case c25 => k_is); (case k25 => k_is); (case a26 => k_is); (case l26 => k_is); (case c26 => k_is); (case k26 => k_is); (case a27 => k_is); (case l27 => k_is); (case c27 => k_is); (case k27 => k_is); (case a28 => k_is); (case l28 => k_is); (case c28 => k_is); (case k28 => k_is); (case a29 => k_is); (case l29 => k_is); (case c29 => k_is); (case k29 => k_is); (case a30 => k_is); (case l30 => k_is); (case c30 => k_is); (case k30 => k_is); (case a31 => k_is); (case l31 => k_is); (case c31 => k_is); (case k31 => k_is); (case a32 => k_is); (case l32 => k_is); (case c32 => k_is); (case k32 => k_is); (case a33 => k_is); (case l33 => k_is); (case c33 => k_is); (case k33 => k_is); (case a34 => k_is); (case l34 => k_is); (case c34 => k_is); (case k34 => k_is); (case a35 => k_is); (case l35 => k_is); (case c35 => k_is); (case k35 => k_is); (case a36 => k_is); (case l36 => k_is); (case c36 => k_is); (case k36 => k_is); (case a37 => k_is); (case l37 => k_is); (case c37 => k_is); (case k37 => k_is); (case a38 => k_is); (case l38 => k_is); (case c38 => k_is); (case k38 => k_is); (case ka_ZERO => k_is); (case kl_ZERO => k_is); (case ka_ONE => k_is); (case kl_ONE => k_is); (case ea_ZeroDenominator => k_is); (case ex_ZeroDenominator => k_exc); (case ek_ZeroDenominator => k_is); (case eb_ZeroDenominator => k_is); (case et_ZeroDenominator => k_is); (case eh_ZeroDenominator => k_is); (case ea_BoxError => k_is); (case ex_BoxError => k_exc); (case ek_BoxError => k_is); (case eb_BoxError => k_is); (case et_BoxError => k_is); (case eh_BoxError => k_is); (case es_ZeroDenominator_ZeroDenominator => k_is); (case es_BoxError_BoxError => k_is); (case z_abs => k_is); (case z_int => k_is); (case z_len => k_is); (case z_list => k_is); (case z_range => k_is); (case z_zip => k_is); (case z_gcd => k_is)

