import PyProof.Rows.All
import Wide.All
import OpenK.AllK
import Wide.FinOn
import PySem.Challenge.RW_steadybodies_k03_vectors
import HandS.ForMost
import HandS.ForExc
import HandS.Wide
import HandS.Gcd
set_option Elab.async false
set_option linter.all false
set_option maxRecDepth 100000
set_option maxHeartbeats 4000000
set_option exponentiation.threshold 10000
/-! A layer over the hand layer: big steps over data. -/
namespace PL
open PySem PySem.Spec PyProof.Rows L2

/-- a value as data, or the address of an object that may change -/
inductive Dat where
  | d (x : PyData)
  | r (a : Addr)
  | l (ds : List PyData)
  | k (kvs : List (Key × PyData))
abbrev Dat.i (n : Int) : Dat := .d (.int n)
abbrev Dat.b (b : Bool) : Dat := .d (.bool b)
abbrev Dat.t (xs : List PyData) : Dat := .d (.tuple xs)

/-- o stands where it stood; a code object's table may have grown -/
def Kpt (o : HO) (x : Option HO) : Prop := match o with
  | .tbl ps => ∃ qs : Array Value, x = some (.tbl qs) ∧ (TriplesOk ps.toList → TriplesOk qs.toList)
  | o => x = some o
theorem Kpt.of {o : HO} {x : Option HO} (h : x = some o) : Kpt o x := by
  cases o with
  | tbl ps => exact ⟨ps, h, id⟩
  | _ => exact h
theorem Kpt.some {o : HO} {x : Option HO} (h : Kpt o x) : ∃ u, x = some u ∧ ((∀ ps, o ≠ .tbl ps) → u = o) := by
  cases o with
  | tbl ps =>
    obtain ⟨qs, e, _⟩ := h
    exact ⟨_, e, fun z => (z ps rfl).elim⟩
  | _ => exact ⟨_, h, fun _ => rfl⟩
theorem Kpt.trans {o : HO} {x y : Option HO} (h : Kpt o x) (g : ∀ u, x = Option.some u → Kpt u y) : Kpt o y := by
  cases o with
  | tbl ps =>
    obtain ⟨qs, e, t⟩ := h
    obtain ⟨rs, e2, t2⟩ := g _ e
    exact ⟨rs, e2, fun z => t2 (t z)⟩
  | _ => exact g _ h
def Same (H H' : Hp) : Prop := ∀ b o, H b = some o → Kpt o (H' b)
theorem Same.refl (H : Hp) : Same H H := fun _ _ h => .of h
theorem Same.trans {H H1 H2 : Hp} (a : Same H H1) (b : Same H1 H2) : Same H H2 := fun c o h => (a c o h).trans fun u e => b c u e
theorem Same.free {H H' : Hp} (e : Same H H') {l : Addr} (h : H' l = none) : H l = none := by
  cases z : H l with
  | none => rfl
  | some o =>
    obtain ⟨u, hu, _⟩ := (e l o z).some
    rw [h] at hu
    cases hu
theorem Same.seq {K : PySem.W.Frag} {H H' : Hp} {a : Addr} {xs : List V} (e : Same H H') (h : SqL K H a xs) : SqL K H' a xs := by
  rcases h with (h | ⟨o, h⟩) | h
  · exact .inl (.inl (e _ _ h))
  · exact .inl (.inr ⟨o, e _ _ h⟩)
  · exact .inr h

section
variable {K : PySem.W.Frag} {G H G1 H1 G2 H2 H' : Hp}
theorem same_new {p : Addr} {o : HO} (h : H p = none) : Same H (upd H p o) := fun a u e => by
  rw [upd_ne (ne_of_none e h)]
  exact .of e
theorem same_t {a : Addr} {xs : List V} (e : Same H H') (h : SqT K H a xs) : SqT K H' a xs := by
  rcases h with (h | ⟨o, h⟩) | h
  · exact .inl (.inl (e _ _ h))
  · exact .inl (.inr ⟨o, e _ _ h⟩)
  · exact .inr h
mutual
theorem dp_mono (e : Same H H') : ∀ (d : PyData) (v : V), Dp K H v d → Dp K H' v d
  | .none, _, h => by cases h; exact .non
  | .bool b, _, h => by cases h; exact .bl b
  | .int i, _, h => by cases h; exact .int i
  | .str x, _, h => by cases h; exact .str x
  | .list ds, _, h => by
    cases h with
    | lst a b => exact .lst (e.seq a) (dp_monos e ds _ b)
  | .tuple ds, _, h => by
    cases h with
    | tup a b => exact .tup (same_t e a) (dp_monos e ds _ b)
  | .dict _, _, h => by cases h
theorem dp_monos (e : Same H H') : ∀ (ds : List PyData) (vs : List V), DpAll K H vs ds → DpAll K H' vs ds
  | [], _, h => by cases h; exact .nil
  | d :: ds, _, h => by
    cases h with
    | cons a b => exact .cons (dp_mono e d _ a) (dp_monos e ds _ b)
end
theorem dpa_get : ∀ {vs : List V} {ds : List PyData} {i : Nat} {d : PyData}, DpAll K G vs ds → ds[i]? = some d → ∃ v, vs[i]? = some v ∧ Dp K G v d
  | _, _, _, _, .nil, e => by simp at e
  | _, _, 0, _, .cons a _, e => by
    simp at e
    subst e
    exact ⟨_, rfl, a⟩
  | _, _, i + 1, d, .cons _ b, e => by
    obtain ⟨v, h1, h2⟩ := dpa_get (i := i) (d := d) b (by simpa using e)
    exact ⟨v, by simpa using h1, h2⟩
theorem dpa_len : ∀ {vs : List V} {ds : List PyData}, DpAll K G vs ds → vs.length = ds.length
  | _, _, .nil => rfl
  | _, _, .cons _ b => by
    rw [List.length_cons, List.length_cons, dpa_len b]
theorem dpa_ints : ∀ (ns : List Int), DpAll K G (ns.map V.int) (ns.map PyData.int)
  | [] => .nil
  | n :: ns => .cons (.int n) (dpa_ints ns)
theorem dpa_app : ∀ {vs ws : List V} {ds es : List PyData}, DpAll K G vs ds → DpAll K G ws es → DpAll K G (vs ++ ws) (ds ++ es)
  | _, _, _, _, .nil, h => h
  | _, _, _, _, .cons a b, h => .cons a (dpa_app b h)

/-- a dict's items as data -/
def KvAll (K : PySem.W.Frag) (G : Hp) (vs : List (Key × V)) (kvs : List (Key × PyData)) : Prop := vs.map (·.1) = kvs.map (·.1) ∧ DpAll K G (vs.map (·.2)) (kvs.map (·.2))
def Dv (K : PySem.W.Frag) (G : Hp) (v : V) : Dat → Prop
  | .d x => Dp K G v x
  | .r a => v = .ref a
  | .l ds => ∃ a vs, v = .ref a ∧ G a = some (.lst vs) ∧ DpAll K G vs ds
  | .k kvs => ∃ a vs, v = .ref a ∧ G a = some (.dK vs) ∧ KvAll K G vs kvs
theorem dv_mono {v : V} {d : Dat} (e : Same H H') (h : Dv K H v d) : Dv K H' v d := by
  cases d with
  | d x => exact dp_mono e x v h
  | r a => exact h
  | l ds =>
    obtain ⟨a, vs, h1, h2, h3⟩ := h
    exact ⟨a, vs, h1, e _ _ h2, dp_monos e ds vs h3⟩
  | k kvs =>
    obtain ⟨a, vs, h1, h2, h3⟩ := h
    exact ⟨a, vs, h1, e _ _ h2, h3.1, dp_monos e _ _ h3.2⟩
def DvAll (K : PySem.W.Frag) (G : Hp) : List V → List Dat → Prop
  | [], [] => True
  | v :: vs, d :: ds => Dv K G v d ∧ DvAll K G vs ds
  | [], _ :: _ => False
  | _ :: _, [] => False
theorem dva_mono (e : Same H H') : ∀ {vs : List V} {ds : List Dat}, DvAll K H vs ds → DvAll K H' vs ds
  | [], [], _ => trivial
  | _ :: _, _ :: _, h => ⟨dv_mono e h.1, dva_mono e h.2⟩
  | [], _ :: _, h => h.elim
  | _ :: _, [], h => h.elim
theorem dva_len : ∀ {vs : List V} {ds : List Dat}, DvAll K H vs ds → vs.length = ds.length
  | [], [], _ => rfl
  | _ :: vs, _ :: ds, h => by
    rw [List.length_cons, List.length_cons, dva_len h.2]
  | [], _ :: _, h => h.elim
  | _ :: _, [], h => h.elim
theorem dva_dp : ∀ {vs : List V} {ds : List PyData}, DvAll K H vs (ds.map Dat.d) → DpAll K H vs ds
  | [], [], _ => .nil
  | _ :: _, _ :: _, h => .cons h.1 (dva_dp h.2)
  | [], _ :: _, h => h.elim
  | _ :: _, [], h => h.elim
def SlD (K : PySem.W.Frag) (G : Hp) (s : Option V) : Option Dat → Prop
  | none => True
  | some d => ∃ v, s = some v ∧ Dv K G v d
theorem sld_mono {s : Option V} {o : Option Dat} (e : Same H H') (h : SlD K H s o) : SlD K H' s o := by
  cases o with
  | none => trivial
  | some d =>
    obtain ⟨v, h1, h2⟩ := h
    exact ⟨v, h1, dv_mono e h2⟩
abbrev Rho := List (Option Dat)
def EnvD (K : PySem.W.Frag) (G : Hp) : List (Option V) → Rho → Prop
  | [], [] => True
  | s :: σ, o :: ρ => SlD K G s o ∧ EnvD K G σ ρ
  | [], _ :: _ => False
  | _ :: _, [] => False
theorem env_mono (e : Same H H') : ∀ {σ : List (Option V)} {ρ : Rho}, EnvD K H σ ρ → EnvD K H' σ ρ
  | [], [], _ => trivial
  | _ :: _, _ :: _, h => ⟨sld_mono e h.1, env_mono e h.2⟩
  | [], _ :: _, h => h.elim
  | _ :: _, [], h => h.elim
theorem env_get : ∀ {σ : List (Option V)} {ρ : Rho} {i : Nat} {d : Dat}, EnvD K G σ ρ → ρ[i]? = some (some d) → ∃ v, σ[i]? = some (some v) ∧ Dv K G v d
  | [], [], _, _, _, e => by simp at e
  | _ :: _, _ :: _, 0, d, h, e => by
    simp at e
    subst e
    obtain ⟨v, h1, h2⟩ := h.1
    exact ⟨v, by simp [h1], h2⟩
  | _ :: σ, _ :: ρ, i + 1, d, h, e => by
    obtain ⟨v, h1, h2⟩ := env_get (i := i) (d := d) h.2 (by simpa using e)
    exact ⟨v, by simpa using h1, h2⟩
  | [], _ :: _, _, _, h, _ => h.elim
  | _ :: _, [], _, _, h, _ => h.elim
theorem env_set {v : V} {d : Dat} (hv : Dv K G v d) : ∀ {σ : List (Option V)} {ρ : Rho} {i : Nat}, EnvD K G σ ρ → EnvD K G (σ.set i (some v)) (ρ.set i (some d))
  | [], [], _, _ => trivial
  | _ :: _, _ :: _, 0, h => ⟨⟨v, rfl, hv⟩, h.2⟩
  | _ :: σ, _ :: ρ, i + 1, h => ⟨h.1, env_set hv (i := i) h.2⟩
  | [], _ :: _, _, h => h.elim
  | _ :: _, [], _, h => h.elim
/-- less is known -/
def Less : Rho → Rho → Prop
  | [], [] => True
  | a :: ρ, b :: ρ' => (b = none ∨ a = b) ∧ Less ρ ρ'
  | [], _ :: _ => False
  | _ :: _, [] => False
theorem env_less : ∀ {σ : List (Option V)} {ρ ρ' : Rho}, Less ρ ρ' → EnvD K G σ ρ → EnvD K G σ ρ'
  | [], [], [], _, _ => trivial
  | _ :: _, _ :: _, _ :: _, l, h => ⟨by
      rcases l.1 with e | e
      · rw [e]; trivial
      · rw [← e]; exact h.1, env_less l.2 h.2⟩
  | _, [], _ :: _, l, _ => l.elim
  | _, _ :: _, [], l, _ => l.elim
  | [], _ :: _, _, _, h => h.elim
  | _ :: _, [], _, _, h => h.elim
theorem env_nones : ∀ (n : Nat), EnvD K G (List.replicate n none) (List.replicate n none)
  | 0 => trivial
  | n + 1 => ⟨trivial, env_nones n⟩
theorem env_start : ∀ {vs : List V} {ds : List Dat} (n : Nat), DvAll K G vs ds → EnvD K G (vs.map some ++ List.replicate n none) (ds.map some ++ List.replicate n none)
  | [], [], n, _ => env_nones n
  | v :: _, _ :: _, n, h => ⟨⟨v, rfl, h.1⟩, env_start n h.2⟩
  | [], _ :: _, _, h => h.elim
  | _ :: _, [], _, h => h.elim

/-! ### steps of the heap; what is said of it -/
structure Stp (M : Addr → Prop) (G H G2 H2 : Hp) : Prop where
  gg : Same G G2
  gh : Same G2 H2
  hh : ∀ a o, ¬ M a → H a = some o → Kpt o (H2 a)
  fr : ∀ a o, ¬ M a → H a = some o → G a = none → G2 a = none
  ex : ∀ a o, H a = some o → ∃ u, H2 a = some u
abbrev NoA : Addr → Prop := fun _ => False
theorem Stp.refl {M : Addr → Prop} (h : Same G H) : Stp M G H G H := ⟨Same.refl _, h, fun _ _ _ e => .of e, fun _ _ _ _ e => e, fun _ o e => ⟨o, e⟩⟩
theorem Stp.trans {M : Addr → Prop} (a : Stp M G H G1 H1) (b : Stp M G1 H1 G2 H2) : Stp M G H G2 H2 :=
  ⟨a.gg.trans b.gg, b.gh, fun c o n e => (a.hh c o n e).trans fun u z => b.hh c u n z, fun c o m e n => by
    obtain ⟨u, hu⟩ := a.ex c o e
    exact b.fr c u m hu (a.fr c o m e n), fun c o e => by
    obtain ⟨u, hu⟩ := a.ex c o e
    exact b.ex c u hu⟩
theorem Stp.wide {M M' : Addr → Prop} (h : ∀ a, M a → M' a) (a : Stp M G H G2 H2) : Stp M' G H G2 H2 :=
  ⟨a.gg, a.gh, fun c o n e => a.hh c o (fun z => n (h c z)) e, fun c o n => a.fr c o (fun z => n (h c z)), a.ex⟩
/-- a new object that never changes -/
theorem Stp.new {p : Addr} {o : HO} (h : Same G H) (hp : H p = none) : Stp NoA G H (upd G p o) (upd H p o) := by
  have gp : G p = none := h.free hp
  refine ⟨same_new gp, fun a u e => ?_, fun a u _ e => ?_, fun a u _ e n => ?_, fun a u e => ?_⟩
  · by_cases z : a = p
    · subst z
      rw [upd_same] at e ⊢
      exact .of e
    · rw [upd_ne z] at e ⊢
      exact h a u e
  · rw [upd_ne (ne_of_none e hp)]
    exact .of e
  · rw [upd_ne (ne_of_none e hp)]
    exact n
  · exact ⟨u, by rw [upd_ne (ne_of_none e hp)]; exact e⟩
/-- a new object that may change -/
theorem Stp.newM {p : Addr} {o : HO} (h : Same G H) (hp : H p = none) : Stp NoA G H G (upd H p o) :=
  ⟨Same.refl _, h.trans (same_new hp), fun a u _ e => by rw [upd_ne (ne_of_none e hp)]; exact .of e, fun _ _ _ _ n => n, fun a u e => ⟨u, by rw [upd_ne (ne_of_none e hp)]; exact e⟩⟩
/-- a store -/
theorem Stp.store {p : Addr} {o u : HO} (h : Same G H) (gp : G p = none) (hp : H p = some u) : Stp (· = p) G H G (upd H p o) :=
  ⟨Same.refl _, fun a x e => by
    rw [upd_ne (ne_of_none e gp)]
    exact h a x e, fun a x n e => by
    rw [upd_ne n]
    exact .of e, fun _ _ _ _ n => n, fun a x e => by
    by_cases z : a = p
    · subst z
      exact ⟨o, upd_same⟩
    · exact ⟨x, by rw [upd_ne z]; exact e⟩⟩
/-- a table grows -/
theorem Stp.tab {p : Addr} {ps qs : Array Value} (h : Same G H) (hp : H p = some (.tbl ps)) (t : TriplesOk ps.toList → TriplesOk qs.toList) : Stp NoA G H G (upd H p (.tbl qs)) := by
  have k : ∀ a x, H a = some x → Kpt x (upd H p (.tbl qs) a) := fun a x e => by
    by_cases z : a = p
    · subst z
      rw [hp] at e
      cases e
      exact ⟨qs, upd_same, t⟩
    · rw [upd_ne z]
      exact .of e
  exact ⟨Same.refl _, fun a x e => (h a x e).trans fun u z => k a u z, fun a x _ e => k a x e, fun _ _ _ _ n => n, fun a x e => let ⟨u, z, _⟩ := (k a x e).some; ⟨u, z⟩⟩
/-- the tables at these places are known -/
def TabsIn (T : List Addr) (G : Hp) : Prop := ∀ p ∈ T, ∃ ps : Array Value, G p = some (.tbl ps) ∧ TriplesOk ps.toList
theorem TabsIn.mono {T : List Addr} (h : TabsIn T G) (e : Same G H) : TabsIn T H := fun p hp => by
  obtain ⟨ps, e1, t⟩ := h p hp
  obtain ⟨qs, e2, t2⟩ := e p _ e1
  exact ⟨qs, e2, t2 t⟩
structure Asn where
  foot : Addr → Prop
  ok : Hp → Hp → Prop
  st : ∀ (M : Addr → Prop) (G H G2 H2 : Hp), (∀ a, foot a → ¬ M a) → Stp M G H G2 H2 → ok G H → ok G2 H2
  own : ∀ (G H : Hp) (a : Addr), ok G H → foot a → ∃ o, H a = some o
theorem Asn.pure_st {I : Asn} (s : Stp NoA G H G2 H2) (h : I.ok G H) : I.ok G2 H2 := I.st NoA G H G2 H2 (fun _ _ z => z) s h
def Asn.tt : Asn := ⟨NoA, fun _ _ => True, fun _ _ _ _ _ _ _ _ => trivial, fun _ _ _ _ z => z.elim⟩
def Asn.and (I J : Asn) : Asn := ⟨fun a => I.foot a ∨ J.foot a, fun G H => I.ok G H ∧ J.ok G H, fun M G H G2 H2 n s h => ⟨I.st M G H G2 H2 (fun a z => n a (.inl z)) s h.1, J.st M G H G2 H2 (fun a z => n a (.inr z)) s h.2⟩, fun G H a h z => z.elim (I.own G H a h.1) (J.own G H a h.2)⟩
/-- all that was, but M's, stands as it stood -/
def Asn.since (M : Addr → Prop) (G0 H0 : Hp) : Asn := ⟨fun a => ¬ M a ∧ ∃ o, H0 a = some o, fun G H => Stp M G0 H0 G H, fun M' G H G2 H2 n s h =>
  ⟨h.gg.trans s.gg, s.gh, fun a o m e => (h.hh a o m e).trans fun u z => s.hh a u (n a ⟨m, o, e⟩) z, fun a o m e g => by
    obtain ⟨u, hu⟩ := h.ex a o e
    exact s.fr a u (n a ⟨m, o, e⟩) hu (h.fr a o m e g), fun a o e => by
    obtain ⟨u, hu⟩ := h.ex a o e
    exact s.ex a u hu⟩, fun G H a h ⟨_, o, e⟩ => h.ex a o e⟩

/-! ### judgements -/
def E (K : PySem.W.Frag) (te : TE) (ρ : Rho) (I : Asn) (d : Dat) (J : Asn) : Prop :=
  ∀ G H σ, Same G H → EnvD K G σ ρ → I.ok G H → ∀ Q : VK, (∀ v G2 H2, Same G G2 → Same G2 H2 → J.ok G2 H2 → Dv K G2 v d → Q v H2) → te σ H Q
def A (K : PySem.W.Frag) (ta : TA) (ρ : Rho) (I : Asn) (ds : List Dat) (J : Asn) : Prop :=
  ∀ G H σ, Same G H → EnvD K G σ ρ → I.ok G H → ∀ Q : List V → Hp → Prop, (∀ vs G2 H2, Same G G2 → Same G2 H2 → J.ok G2 H2 → DvAll K G2 vs ds → Q vs H2) → ta σ H Q
def T (K : PySem.W.Frag) (tt : TT) (ρ : Rho) (I : Asn) (b : Bool) (J : Asn) : Prop :=
  ∀ G H σ, Same G H → EnvD K G σ ρ → I.ok G H → ∀ Q : Bool → Hp → Prop, (∀ G2 H2, Same G G2 → Same G2 H2 → J.ok G2 H2 → Q b H2) → tt σ H Q
inductive Out where
  | nx (ρ : Rho) (J : Asn)
  | rt (d : Dat) (J : Asn)
  | bk (ρ : Rho) (J : Asn)
  | ct (ρ : Rho) (J : Asn)
  | fin (P : V → Hp → Hp → Prop)
  | ne (P : Rho → Asn → Prop)
def Fin (K : PySem.W.Frag) (D : Ends) (G : Hp) : Out → Prop
  | .nx ρ J => ∀ G2 H2 σ, Same G G2 → Same G2 H2 → EnvD K G2 σ ρ → J.ok G2 H2 → D.nx σ H2
  | .bk ρ J => ∀ G2 H2 σ, Same G G2 → Same G2 H2 → EnvD K G2 σ ρ → J.ok G2 H2 → D.bk σ H2
  | .ct ρ J => ∀ G2 H2 σ, Same G G2 → Same G2 H2 → EnvD K G2 σ ρ → J.ok G2 H2 → D.ct σ H2
  | .rt d J => ∀ v G2 H2, Same G G2 → Same G2 H2 → J.ok G2 H2 → Dv K G2 v d → D.rt v H2
  | .fin P => ∀ v G2 H2, Same G G2 → Same G2 H2 → P v G2 H2 → D.rt v H2
  | .ne P => ∀ ρ J, P ρ J → ∀ G2 H2 σ, Same G G2 → Same G2 H2 → EnvD K G2 σ ρ → J.ok G2 H2 → D.nx σ H2
theorem Fin.mono {D : Ends} {k : Out} (e : Same G G1) (h : Fin K D G k) : Fin K D G1 k := by
  cases k with
  | nx ρ J => exact fun G2 H2 σ a => h G2 H2 σ (e.trans a)
  | bk ρ J => exact fun G2 H2 σ a => h G2 H2 σ (e.trans a)
  | ct ρ J => exact fun G2 H2 σ a => h G2 H2 σ (e.trans a)
  | rt d J => exact fun v G2 H2 a => h v G2 H2 (e.trans a)
  | fin P => exact fun v G2 H2 a => h v G2 H2 (e.trans a)
  | ne P => exact fun ρ J p G2 H2 σ a => h ρ J p G2 H2 σ (e.trans a)
def S (K : PySem.W.Frag) (t : TS) (ρ : Rho) (I : Asn) (k : Out) : Prop :=
  ∀ G H σ (D : Ends), Same G H → EnvD K G σ ρ → I.ok G H → Fin K D G k → t D σ H
end

section
variable {K : PySem.W.Frag} {ρ ρ1 : Rho} {I J L N : Asn} {ta tb tc te : TE} {d e : Dat} {t u : TT} {b c : Bool}
/-! ### expressions -/
theorem e_var {i : Nat} (h : ρ[i]? = some (some d)) : E K (tVar i) ρ I d I := fun G H σ gh en io Q q => by
  obtain ⟨v, h1, h2⟩ := env_get en h
  exact ⟨v, h1, q v G H (Same.refl _) gh io h2⟩
theorem e_int {i : Int} : E K (tC (.int i)) ρ I (.i i) I := fun G H σ gh en io Q q => q _ G H (Same.refl _) gh io (.int i)
theorem e_bl {i : Bool} : E K (tC (.bl i)) ρ I (.b i) I := fun G H σ gh en io Q q => q _ G H (Same.refl _) gh io (.bl i)
theorem e_str {i : Str} : E K (tC (.str i)) ρ I (.d (.str i)) I := fun G H σ gh en io Q q => q _ G H (Same.refl _) gh io (.str i)
theorem e_non : E K (tC .non) ρ I (.d .none) I := fun G H σ gh en io Q q => q _ G H (Same.refl _) gh io .non
/-- a two-place operation on values -/
theorem e_op {r : R2} {f : Dat} (ha : E K ta ρ I d J) (hb : E K tb ρ J e L) (hr : ∀ G H x y, Same G H → L.ok G H → Dv K G x d → Dv K G y e → ∀ Q : VK, (∀ v G2 H2, Same G G2 → Same G2 H2 → N.ok G2 H2 → Dv K G2 v f → Q v H2) → r x y H Q) : E K (tOp r ta tb) ρ I f N :=
  fun G H σ gh en io Q q => ha G H σ gh en io _ fun x G1 H1 g1 gh1 j1 dx => hb G1 H1 σ gh1 (env_mono g1 en) j1 _ fun y G2 H2 g2 gh2 j2 dy =>
    hr G2 H2 x y gh2 j2 (dv_mono g2 dx) dy Q fun v G3 H3 g3 => q v G3 H3 ((g1.trans g2).trans g3)
theorem dv_int {G : Hp} {x : V} {i : Int} (h : Dv K G x (.i i)) : x = .int i := by
  cases h
  rfl
theorem dv_bl {G : Hp} {x : V} {i : Bool} (h : Dv K G x (.b i)) : x = .bl i := by
  cases h
  rfl
theorem dv_str {G : Hp} {x : V} {i : Str} (h : Dv K G x (.d (.str i))) : x = .str i := by
  cases h
  rfl
theorem e_I0 {f : Int → Int → Int} {i j : Int} (ha : E K ta ρ I (.i i) J) (hb : E K tb ρ J (.i j) L) : E K (tOp (rI0 fun i j => .int (f i j)) ta tb) ρ I (.i (f i j)) L :=
  e_op ha hb fun G H x y gh lo dx dy Q q => ⟨i, j, dv_int dx, dv_int dy, q _ G H (Same.refl _) gh lo (.int _)⟩
theorem e_I {C : Int → Int → Prop} {f : Int → Int → Int} {i j : Int} (ha : E K ta ρ I (.i i) J) (hb : E K tb ρ J (.i j) L) (hc : C i j) : E K (tOp (rI C fun i j => .int (f i j)) ta tb) ρ I (.i (f i j)) L :=
  e_op ha hb fun G H x y gh lo dx dy Q q => ⟨i, j, dv_int dx, dv_int dy, hc, q _ G H (Same.refl _) gh lo (.int _)⟩
theorem e_B0 {f : Int → Int → Bool} {i j : Int} (ha : E K ta ρ I (.i i) J) (hb : E K tb ρ J (.i j) L) : E K (tOp (rI0 fun i j => .bl (f i j)) ta tb) ρ I (.b (f i j)) L :=
  e_op ha hb fun G H x y gh lo dx dy Q q => ⟨i, j, dv_int dx, dv_int dy, q _ G H (Same.refl _) gh lo (.bl _)⟩
theorem e_add {i j : Int} (ha : E K ta ρ I (.i i) J) (hb : E K tb ρ J (.i j) L) : E K (tOp (rI0 fun i j => .int (i + j)) ta tb) ρ I (.i (i + j)) L := e_I0 (f := fun i j => i + j) ha hb
theorem e_sub {i j : Int} (ha : E K ta ρ I (.i i) J) (hb : E K tb ρ J (.i j) L) : E K (tOp (rI0 fun i j => .int (i - j)) ta tb) ρ I (.i (i - j)) L := e_I0 (f := fun i j => i - j) ha hb
theorem e_mul {i j : Int} (ha : E K ta ρ I (.i i) J) (hb : E K tb ρ J (.i j) L) (hc : CMulW i j) : E K (tOp (rI CMulW fun i j => .int (i * j)) ta tb) ρ I (.i (i * j)) L := e_I (f := fun i j => i * j) ha hb hc
theorem e_mul0 {i j : Int} (ha : E K ta ρ I (.i i) J) (hb : E K tb ρ J (.i j) L) (hc : CMul i j) : E K (tOp (rI CMul fun i j => .int (i * j)) ta tb) ρ I (.i (i * j)) L := e_I (f := fun i j => i * j) ha hb hc
theorem e_div {i j : Int} (ha : E K ta ρ I (.i i) J) (hb : E K tb ρ J (.i j) L) (hc : CDivW i j) : E K (tOp (rI CDivW fun i j => .int (i / j)) ta tb) ρ I (.i (i / j)) L := e_I (f := fun i j => i / j) ha hb hc
theorem e_mod {i j : Int} (ha : E K ta ρ I (.i i) J) (hb : E K tb ρ J (.i j) L) (hc : 0 < j) : E K (tOp (rI (fun _ j => 0 < j) fun i j => .int (i % j)) ta tb) ρ I (.i (i % j)) L := e_I (f := fun i j => i % j) ha hb hc
theorem e_pow {i j : Int} (ha : E K ta ρ I (.i i) J) (hb : E K tb ρ J (.i j) L) (hc : CPow i j) : E K (tOp (rI CPow fun i j => .int (i ^ j.toNat)) ta tb) ρ I (.i (i ^ j.toNat)) L := e_I (f := fun i j => i ^ j.toNat) ha hb hc
theorem e_lt {i j : Int} (ha : E K ta ρ I (.i i) J) (hb : E K tb ρ J (.i j) L) : E K (tOp (rI0 fun i j => .bl (decide (i < j))) ta tb) ρ I (.b (decide (i < j))) L := e_B0 (f := fun i j => decide (i < j)) ha hb
theorem e_le {i j : Int} (ha : E K ta ρ I (.i i) J) (hb : E K tb ρ J (.i j) L) : E K (tOp (rI0 fun i j => .bl (decide (i ≤ j))) ta tb) ρ I (.b (decide (i ≤ j))) L := e_B0 (f := fun i j => decide (i ≤ j)) ha hb
theorem e_gt {i j : Int} (ha : E K ta ρ I (.i i) J) (hb : E K tb ρ J (.i j) L) : E K (tOp (rI0 fun i j => .bl (decide (j < i))) ta tb) ρ I (.b (decide (j < i))) L := e_B0 (f := fun i j => decide (j < i)) ha hb
theorem e_ge {i j : Int} (ha : E K ta ρ I (.i i) J) (hb : E K tb ρ J (.i j) L) : E K (tOp (rI0 fun i j => .bl (decide (j ≤ i))) ta tb) ρ I (.b (decide (j ≤ i))) L := e_B0 (f := fun i j => decide (j ≤ i)) ha hb
theorem e_eqI {i j : Int} (ha : E K ta ρ I (.i i) J) (hb : E K tb ρ J (.i j) L) : E K (tOp rEq ta tb) ρ I (.b (decide (i = j))) L :=
  e_op ha hb fun G H x y gh lo dx dy Q q => by
    obtain rfl := dv_int dx
    obtain rfl := dv_int dy
    refine ⟨rfl, q _ G H (Same.refl _) gh lo ?_⟩
    have z : decide (V.int i = V.int j) = decide (i = j) := by
      by_cases h : i = j
      · subst h; simp
      · rw [decide_eq_false h, decide_eq_false (fun z => h (V.int.inj z))]
    rw [z]
    exact .bl _
theorem e_neI {i j : Int} (ha : E K ta ρ I (.i i) J) (hb : E K tb ρ J (.i j) L) : E K (tOp rNe ta tb) ρ I (.b (!decide (i = j))) L :=
  e_op ha hb fun G H x y gh lo dx dy Q q => by
    obtain rfl := dv_int dx
    obtain rfl := dv_int dy
    refine ⟨rfl, q _ G H (Same.refl _) gh lo ?_⟩
    have z : decide (V.int i = V.int j) = decide (i = j) := by
      by_cases h : i = j
      · subst h; simp
      · rw [decide_eq_false h, decide_eq_false (fun z => h (V.int.inj z))]
    rw [z]
    exact .bl _
theorem e_eqD {x y : PyData} (ha : E K ta ρ I (.d x) J) (hb : E K tb ρ J (.d y) L) (hx : SeqAt.shaped x = true) (hy : SeqAt.shaped y = true) : E K (tOp (rEqD K) ta tb) ρ I (.b (PyData.eqv x y)) L :=
  e_op ha hb fun G H a b gh lo dx dy Q q => ⟨x, y, dp_mono gh _ _ dx, dp_mono gh _ _ dy, hx, hy, q _ G H (Same.refl _) gh lo (.bl _)⟩
theorem e_neD {x y : PyData} (ha : E K ta ρ I (.d x) J) (hb : E K tb ρ J (.d y) L) (hx : SeqAt.shaped x = true) (hy : SeqAt.shaped y = true) : E K (tOp (rNeD K) ta tb) ρ I (.b (!PyData.eqv x y)) L :=
  e_op ha hb fun G H a b gh lo dx dy Q q => ⟨x, y, dp_mono gh _ _ dx, dp_mono gh _ _ dy, hx, hy, q _ G H (Same.refl _) gh lo (.bl _)⟩
theorem e_neg {i : Int} (ha : E K ta ρ I (.i i) J) : E K (tUn (rU fun i => .int (-i)) ta) ρ I (.i (-i)) J :=
  fun G H σ gh en io Q q => ha G H σ gh en io _ fun x G1 H1 g1 gh1 j1 dx => ⟨i, dv_int dx, q _ G1 H1 g1 gh1 j1 (.int _)⟩
/-- an item of a tuple -/
theorem e_ixT {ds : List PyData} {j : Nat} {x : PyData} (ha : E K ta ρ I (.t ds) J) (hb : E K tb ρ J (.i (j : Nat)) L) (h : ds[j]? = some x) : E K (tOp (rIxT K) ta tb) ρ I (.d x) L :=
  e_op ha hb fun G H a b gh lo dx dy Q q => by
    cases dx with
    | tup s r =>
      obtain rfl := dv_int dy
      obtain ⟨v, h1, h2⟩ := dpa_get r h
      exact ⟨_, _, _, v, rfl, rfl, same_t gh s, atI_nat h1, q v G H (Same.refl _) gh lo h2⟩
/-- an item of a list that never changes -/
theorem e_ixL {ds : List PyData} {j : Nat} {x : PyData} (ha : E K ta ρ I (.d (.list ds)) J) (hb : E K tb ρ J (.i (j : Nat)) L) (h : ds[j]? = some x) : E K (tOp (rIxL K) ta tb) ρ I (.d x) L :=
  e_op ha hb fun G H a b gh lo dx dy Q q => by
    cases dx with
    | lst s r =>
      obtain rfl := dv_int dy
      obtain ⟨v, h1, h2⟩ := dpa_get r h
      exact ⟨_, _, _, v, rfl, rfl, gh.seq s, atI_nat h1, q v G H (Same.refl _) gh lo h2⟩
/-! ### arguments, displays, calls of built-ins -/
theorem a_nil : A K tNil ρ I [] I := fun G H σ gh en io Q q => q [] G H (Same.refl _) gh io trivial
theorem a_cons {tr : TA} {ds : List Dat} (ha : E K ta ρ I d J) (hr : A K tr ρ J ds L) : A K (tCons ta tr) ρ I (d :: ds) L :=
  fun G H σ gh en io Q q => ha G H σ gh en io _ fun x G1 H1 g1 gh1 j1 dx => hr G1 H1 σ gh1 (env_mono g1 en) j1 _ fun xs G2 H2 g2 gh2 j2 dxs => q (x :: xs) G2 H2 (g1.trans g2) gh2 j2 ⟨dv_mono g2 dx, dxs⟩
theorem sz_of {n : Nat} (h : n ≤ 100000) : n ≤ sizeLine := Nat.le_trans h (by decide)
theorem e_tupA {tr : TA} {ds : List PyData} (hr : A K tr ρ I (ds.map Dat.d) J) (hl : ds.length ≤ 100000) : E K (tTup tr) ρ I (.t ds) J :=
  fun G H σ gh en io Q q => hr G H σ gh en io _ fun xs G1 H1 g1 gh1 j1 dxs => by
    have r := dva_dp dxs
    refine ⟨by rw [dpa_len r]; exact sz_of hl, fun p hp => ?_⟩
    have s := Stp.new (o := .tup xs) gh1 hp
    exact q _ _ _ (g1.trans s.gg) s.gh (Asn.pure_st s j1) (.tup (.inl (.inl upd_same)) (dp_monos s.gg ds xs r))
theorem e_lstA {tr : TA} {ds : List PyData} (hr : A K tr ρ I (ds.map Dat.d) J) (hl : ds.length ≤ 100000) : E K (tLst tr) ρ I (.d (.list ds)) J :=
  fun G H σ gh en io Q q => hr G H σ gh en io _ fun xs G1 H1 g1 gh1 j1 dxs => by
    have r := dva_dp dxs
    refine ⟨by rw [dpa_len r]; exact sz_of hl, fun p hp => ?_⟩
    have s := Stp.new (o := .lst xs) gh1 hp
    exact q _ _ _ (g1.trans s.gg) s.gh (Asn.pure_st s j1) (.lst (.inl (.inl upd_same)) (dp_monos s.gg ds xs r))
inductive Ds : List Dat → List PyData → Prop
  | nil : Ds [] []
  | cons {x : PyData} {ds : List Dat} {xs : List PyData} : Ds ds xs → Ds (.d x :: ds) (x :: xs)
theorem Ds.map {ds : List Dat} {xs : List PyData} (h : Ds ds xs) : ds = xs.map Dat.d := by
  induction h with
  | nil => rfl
  | cons _ ih => rw [ih, List.map_cons]
theorem e_tup {tr : TA} {ds : List Dat} {xs : List PyData} (hr : A K tr ρ I ds J) (hd : Ds ds xs) (hl : xs.length ≤ 100000) : E K (tTup tr) ρ I (.t xs) J := e_tupA (by rw [← hd.map]; exact hr) hl
theorem e_lst {tr : TA} {ds : List Dat} {xs : List PyData} (hr : A K tr ρ I ds J) (hd : Ds ds xs) (hl : xs.length ≤ 100000) : E K (tLst tr) ρ I (.d (.list xs)) J := e_lstA (by rw [← hd.map]; exact hr) hl
theorem e_cb {r : List V → Hp → VK → Prop} {tr : TA} {ds : List Dat} (hr : A K tr ρ I ds J) (h : ∀ G H vs, Same G H → J.ok G H → DvAll K G vs ds → ∀ Q : VK, (∀ v G2 H2, Same G G2 → Same G2 H2 → L.ok G2 H2 → Dv K G2 v d → Q v H2) → r vs H Q) : E K (tCB r tr) ρ I d L :=
  fun G H σ gh en io Q q => hr G H σ gh en io _ fun xs G1 H1 g1 gh1 j1 dxs => h G1 H1 xs gh1 j1 dxs Q fun v G2 H2 g2 => q v G2 H2 (g1.trans g2)
theorem dva1 {G : Hp} {vs : List V} {d : Dat} (h : DvAll K G vs [d]) : ∃ v, vs = [v] ∧ Dv K G v d := by
  match vs, h with
  | [v], h => exact ⟨v, rfl, h.1⟩
theorem dva2 {G : Hp} {vs : List V} {d e : Dat} (h : DvAll K G vs [d, e]) : ∃ v w, vs = [v, w] ∧ Dv K G v d ∧ Dv K G w e := by
  match vs, h with
  | [v, w], h => exact ⟨v, w, rfl, h.1, h.2.1⟩
theorem e_gcd {i j : Int} {tr : TA} (hr : A K tr ρ I [.i i, .i j] J) : E K (tCB rGcd tr) ρ I (.i ((Nat.gcd i.natAbs j.natAbs : Nat) : Int)) J :=
  e_cb hr fun G H vs gh jo h Q q => by
    obtain ⟨v, w, rfl, h1, h2⟩ := dva2 h
    obtain rfl := dv_int h1
    obtain rfl := dv_int h2
    exact ⟨i, j, rfl, q _ G H (Same.refl _) gh jo (.int _)⟩
theorem e_len {ds : List PyData} {tr : TA} (hr : A K tr ρ I [.d (.list ds)] J) : E K (tCB (fun xs H Q => ∃ p ys, xs = [.ref p] ∧ (SqL K H p ys ∨ SqT K H p ys) ∧ Q (.int ys.length) H) tr) ρ I (.i (ds.length : Nat)) J :=
  e_cb hr fun G H vs gh jo h Q q => by
    obtain ⟨v, rfl, h1⟩ := dva1 h
    cases h1 with
    | lst s r => exact ⟨_, _, rfl, .inl (gh.seq s), by rw [dpa_len r]; exact q _ G H (Same.refl _) gh jo (.int _)⟩
theorem e_lenT {ds : List PyData} {tr : TA} (hr : A K tr ρ I [.t ds] J) : E K (tCB (fun xs H Q => ∃ p ys, xs = [.ref p] ∧ (SqL K H p ys ∨ SqT K H p ys) ∧ Q (.int ys.length) H) tr) ρ I (.i (ds.length : Nat)) J :=
  e_cb hr fun G H vs gh jo h Q q => by
    obtain ⟨v, rfl, h1⟩ := dva1 h
    cases h1 with
    | tup s r => exact ⟨_, _, rfl, .inr (same_t gh s), by rw [dpa_len r]; exact q _ G H (Same.refl _) gh jo (.int _)⟩
/-! ### tests -/
theorem t_test (h : E K te ρ I (.b b) J) : T K (tTest te) ρ I b J := fun G H σ gh en io Q q => h G H σ gh en io _ fun x G1 H1 g1 gh1 j1 dx => ⟨b, dv_bl dx, q G1 H1 g1 gh1 j1⟩
theorem t_B (h : E K te ρ I (.b b) J) : T K (tB te) ρ I b J := fun G H σ gh en io Q q => h G H σ gh en io _ fun x G1 H1 g1 gh1 j1 dx => ⟨b, dv_bl dx, q G1 H1 g1 gh1 j1⟩
theorem t_not (h : T K t ρ I b J) : T K (tNot t) ρ I (!b) J := fun G H σ gh en io Q q => h G H σ gh en io _ fun G1 H1 g1 gh1 j1 => q G1 H1 g1 gh1 j1
theorem t_and (h : T K t ρ I b J) (h2 : b = true → T K u ρ J c J) : T K (tAnd t u) ρ I (b && c) J := fun G H σ gh en io Q q => h G H σ gh en io _ fun G1 H1 g1 gh1 j1 => by
  cases b with
  | true =>
    show u σ H1 Q
    exact h2 rfl G1 H1 σ gh1 (env_mono g1 en) j1 Q fun G2 H2 g2 => q G2 H2 (g1.trans g2)
  | false =>
    show Q false H1
    exact q G1 H1 g1 gh1 j1
theorem t_or (h : T K t ρ I b J) (h2 : b = false → T K u ρ J c J) : T K (tOr t u) ρ I (b || c) J := fun G H σ gh en io Q q => h G H σ gh en io _ fun G1 H1 g1 gh1 j1 => by
  cases b with
  | false =>
    show u σ H1 Q
    exact h2 rfl G1 H1 σ gh1 (env_mono g1 en) j1 Q fun G2 H2 g2 => q G2 H2 (g1.trans g2)
  | true =>
    show Q true H1
    exact q G1 H1 g1 gh1 j1
/-- and, or whose outcome is told by the first -/
theorem t_andF (h : T K t ρ I false J) : T K (tAnd t u) ρ I false J := fun G H σ gh en io Q q => h G H σ gh en io _ fun G1 H1 g1 gh1 j1 => q G1 H1 g1 gh1 j1
theorem t_andT (h : T K t ρ I true J) (h2 : T K u ρ J c L) : T K (tAnd t u) ρ I c L := fun G H σ gh en io Q q => h G H σ gh en io _ fun G1 H1 g1 gh1 j1 => h2 G1 H1 σ gh1 (env_mono g1 en) j1 Q fun G2 H2 g2 => q G2 H2 (g1.trans g2)
theorem t_orT (h : T K t ρ I true J) : T K (tOr t u) ρ I true J := fun G H σ gh en io Q q => h G H σ gh en io _ fun G1 H1 g1 gh1 j1 => q G1 H1 g1 gh1 j1
theorem t_orF (h : T K t ρ I false J) (h2 : T K u ρ J c L) : T K (tOr t u) ρ I c L := fun G H σ gh en io Q q => h G H σ gh en io _ fun G1 H1 g1 gh1 j1 => h2 G1 H1 σ gh1 (env_mono g1 en) j1 Q fun G2 H2 g2 => q G2 H2 (g1.trans g2)
theorem t_is {b c : Bool} (h : T K t ρ I b J) (e : b = c) : T K t ρ I c J := e ▸ h
theorem e_is {d e : Dat} (h : E K te ρ I d J) (z : d = e) : E K te ρ I e J := z ▸ h
theorem e_ifT (h : T K t ρ I true J) (h2 : E K ta ρ J d L) : E K (tIf t ta tb) ρ I d L := fun G H σ gh en io Q q => h G H σ gh en io _ fun G1 H1 g1 gh1 j1 => h2 G1 H1 σ gh1 (env_mono g1 en) j1 Q fun v G2 H2 g2 => q v G2 H2 (g1.trans g2)
theorem e_ifF (h : T K t ρ I false J) (h2 : E K tb ρ J d L) : E K (tIf t ta tb) ρ I d L := fun G H σ gh en io Q q => h G H σ gh en io _ fun G1 H1 g1 gh1 j1 => h2 G1 H1 σ gh1 (env_mono g1 en) j1 Q fun v G2 H2 g2 => q v G2 H2 (g1.trans g2)
theorem e_notV (h : E K ta ρ I (.b b) J) : E K (tNotV ta) ρ I (.b (!b)) J := fun G H σ gh en io Q q => h G H σ gh en io _ fun x G1 H1 g1 gh1 j1 dx => ⟨b, dv_bl dx, q _ G1 H1 g1 gh1 j1 (.bl _)⟩
theorem e_andV (h : E K ta ρ I (.b b) J) (h2 : b = true → E K tb ρ J (.b c) J) : E K (tAndV ta tb) ρ I (.b (b && c)) J := fun G H σ gh en io Q q => h G H σ gh en io _ fun x G1 H1 g1 gh1 j1 dx => ⟨b, dv_bl dx, by
  cases b with
  | true =>
    show tb σ H1 Q
    exact h2 rfl G1 H1 σ gh1 (env_mono g1 en) j1 Q fun v G2 H2 g2 => q v G2 H2 (g1.trans g2)
  | false =>
    show Q (.bl false) H1
    exact q _ G1 H1 g1 gh1 j1 (.bl _)⟩
theorem e_orV (h : E K ta ρ I (.b b) J) (h2 : b = false → E K tb ρ J (.b c) J) : E K (tOrV ta tb) ρ I (.b (b || c)) J := fun G H σ gh en io Q q => h G H σ gh en io _ fun x G1 H1 g1 gh1 j1 dx => ⟨b, dv_bl dx, by
  cases b with
  | false =>
    show tb σ H1 Q
    exact h2 rfl G1 H1 σ gh1 (env_mono g1 en) j1 Q fun v G2 H2 g2 => q v G2 H2 (g1.trans g2)
  | true =>
    show Q (.bl true) H1
    exact q _ G1 H1 g1 gh1 j1 (.bl _)⟩
/-! ### statements -/
variable {ts us : TS} {k : Out}
theorem s_next : S K tNext ρ I (.nx ρ I) := fun G H σ D gh en io f => f G H σ (Same.refl _) gh en io
theorem s_asg {i : Nat} (h : E K te ρ I d J) : S K (tAsg te (gName i)) ρ I (.nx (ρ.set i (some d)) J) := fun G H σ D gh en io f => h G H σ gh en io _ fun v G1 H1 g1 gh1 j1 dv => f G1 H1 _ g1 gh1 (env_set dv (env_mono g1 en)) j1
theorem s_ret (h : E K te ρ I d J) : S K (tRet te) ρ I (.rt d J) := fun G H σ D gh en io f => h G H σ gh en io _ fun v G1 H1 g1 gh1 j1 dv => f v G1 H1 g1 gh1 j1 dv
theorem s_drop (h : E K te ρ I d J) : S K (tDrop te) ρ I (.nx ρ J) := fun G H σ D gh en io f => h G H σ gh en io _ fun v G1 H1 g1 gh1 j1 dv => f G1 H1 σ g1 gh1 (env_mono g1 en) j1
theorem s_seq (h : S K ts ρ I (.nx ρ1 J)) (h2 : S K us ρ1 J k) : S K (tSeq ts us) ρ I k := fun G H σ D gh en io f => h G H σ _ gh en io fun G1 H1 σ1 g1 gh1 en1 j1 => h2 G1 H1 σ1 D gh1 en1 j1 (f.mono g1)
theorem s_stop {d : Dat} (h : S K ts ρ I (.rt d J)) : S K (tSeq ts us) ρ I (.rt d J) := fun G H σ D gh en io f => h G H σ _ gh en io f
theorem s_stopC {ρ1 : Rho} (h : S K ts ρ I (.ct ρ1 J)) : S K (tSeq ts us) ρ I (.ct ρ1 J) := fun G H σ D gh en io f => h G H σ _ gh en io f
theorem s_stopB {ρ1 : Rho} (h : S K ts ρ I (.bk ρ1 J)) : S K (tSeq ts us) ρ I (.bk ρ1 J) := fun G H σ D gh en io f => h G H σ _ gh en io f
theorem s_cont : S K tCont ρ I (.ct ρ I) := fun G H σ D gh en io f => f G H σ (Same.refl _) gh en io
theorem s_break : S K tBreak ρ I (.bk ρ I) := fun G H σ D gh en io f => f G H σ (Same.refl _) gh en io
theorem s_ifT (h : T K t ρ I true J) (h2 : S K ts ρ J k) : S K (tIfS t ts us) ρ I k := fun G H σ D gh en io f => h G H σ gh en io _ fun G1 H1 g1 gh1 j1 => h2 G1 H1 σ D gh1 (env_mono g1 en) j1 (f.mono g1)
theorem s_ifF (h : T K t ρ I false J) (h2 : S K us ρ J k) : S K (tIfS t ts us) ρ I k := fun G H σ D gh en io f => h G H σ gh en io _ fun G1 H1 g1 gh1 j1 => h2 G1 H1 σ D gh1 (env_mono g1 en) j1 (f.mono g1)
theorem s_if (h : T K t ρ I b J) (h1 : b = true → S K ts ρ J k) (h2 : b = false → S K us ρ J k) : S K (tIfS t ts us) ρ I k := by
  cases b with
  | true => exact s_ifT h (h1 rfl)
  | false => exact s_ifF h (h2 rfl)
theorem s_par {i j : Nat} {tr : TA} (h : A K tr ρ I [d, e] J) : S K (tPar i j tr) ρ I (.nx ((ρ.set i (some d)).set j (some e)) J) := fun G H σ D gh en io f => h G H σ gh en io _ fun vs G1 H1 g1 gh1 j1 dv => by
  obtain ⟨v, w, rfl, h1, h2⟩ := dva2 dv
  exact ⟨v, w, rfl, f G1 H1 _ g1 gh1 (env_set h2 (env_set h1 (env_mono g1 en))) j1⟩
theorem s_is {k k' : Out} (h : S K ts ρ I k) (e : k = k') : S K ts ρ I k' := e ▸ h
/-- less may be known ahead -/
theorem s_less {ρ' : Rho} (l : Less ρ ρ') (h : S K ts ρ' I k) : S K ts ρ I k := fun G H σ D gh en io f => h G H σ D gh (env_less l en) io f
theorem s_lessN {ρ' ρ'' : Rho} (l : Less ρ' ρ'') (h : S K ts ρ I (.nx ρ' J)) : S K ts ρ I (.nx ρ'' J) := fun G H σ D gh en io f => h G H σ D gh en io fun G2 H2 σ2 g2 gh2 en2 => f G2 H2 σ2 g2 gh2 (env_less l en2)
/-! ### while -/
theorem s_while {α : Type} {tc : TT} (Iv : α → Prop) (P : α → Rho) (V : α → Asn) (μ : α → Nat) (s0 : α) (h0 : Iv s0)
    (turn : ∀ s, Iv s → (T K tc (P s) (V s) true (V s) ∧ ((∃ s', Iv s' ∧ μ s' < μ s ∧ S K ts (P s) (V s) (.nx (P s') (V s'))) ∨ (∃ d J, k = .rt d J ∧ S K ts (P s) (V s) k))) ∨ (T K tc (P s) (V s) false (V s) ∧ k = .nx (P s) (V s))) :
    S K (tWhile tc ts) (P s0) (V s0) k := fun G H σ D gh en io f => by
  refine ⟨fun m σ' H' => ∃ s G', m = μ s ∧ Iv s ∧ Same G G' ∧ Same G' H' ∧ EnvD K G' σ' (P s) ∧ (V s).ok G' H', ⟨μ s0, s0, G, rfl, h0, Same.refl _, gh, en, io⟩, fun m σ' H' hw => ?_⟩
  obtain ⟨s, G', rfl, iv, g', gh', en', io'⟩ := hw
  rcases turn s iv with ⟨ht, hb⟩ | ⟨ht, hk⟩
  · refine ht G' H' σ' gh' en' io' _ fun G1 H1 g1 gh1 j1 => ?_
    rcases hb with ⟨s', iv', lt, hs⟩ | ⟨d, J, rfl, hs⟩
    · refine ⟨fun σ2 H2 => ∃ G2, Same G G2 ∧ Same G2 H2 ∧ EnvD K G2 σ2 (P s') ∧ (V s').ok G2 H2, fun σ2 H2 ⟨G2, a, b, c, d⟩ => ⟨μ s', lt, s', G2, rfl, iv', a, b, c, d⟩, ?_⟩
      exact hs G1 H1 σ' _ gh1 (env_mono g1 en') j1 fun G2 H2 σ2 g2 gh2 en2 j2 => ⟨G2, (g'.trans g1).trans g2, gh2, en2, j2⟩
    · refine ⟨fun _ _ => False, fun _ _ z => z.elim, ?_⟩
      exact hs G1 H1 σ' _ gh1 (env_mono g1 en') j1 ((f.mono g').mono g1 : Fin K D G1 (.rt d J))
  · subst hk
    exact ht G' H' σ' gh' en' io' _ fun G1 H1 g1 gh1 j1 => f G1 H1 σ' (g'.trans g1) gh1 (env_mono g1 en') j1
/-! ### for over a list that never changes, a tuple, a range -/
theorem s_forL {tl : TE} {ds : List PyData} {j : Nat} (P : Nat → Rho) (V : Nat → Asn) (hl : E K tl ρ I (.d (.list ds)) (V 0)) (h0 : ρ = P 0)
    (turn : ∀ i x, ds[i]? = some x → S K ts ((P i).set j (some (.d x))) (V i) (.nx (P (i + 1)) (V (i + 1)))) : S K (tFor (iList K tl) (gName j) ts) ρ I (.nx (P ds.length) (V ds.length)) := fun G H σ D gh en io f => by
  refine hl G H σ gh en io _ fun v G1 H1 g1 gh1 j1 dv => ?_
  cases dv with
  | lst s r =>
    rename_i a xs
    subst h0
    refine ⟨a, rfl, ⟨_, gh1.seq s⟩, for_list (xs := xs) (fun i σ' H' => ∃ G', Same G1 G' ∧ Same G' H' ∧ EnvD K G' σ' (P i) ∧ (V i).ok G' H') ⟨G1, Same.refl _, gh1, env_mono g1 en, j1⟩ (fun i σ' H' _ ⟨G', a1, a2, _⟩ => (a1.trans a2).seq s) (fun i x σ' H' hx ⟨G', a1, a2, a3, a4⟩ => ?_) (fun σ' H' ⟨G', a1, a2, a3, a4⟩ => ?_)⟩
    · have hi : i < xs.length := (List.getElem?_eq_some_iff.mp hx).1
      have hi2 : i < ds.length := by rw [← dpa_len r]; exact hi
      obtain ⟨w, h1, h2⟩ := dpa_get r (List.getElem?_eq_getElem hi2)
      rw [hx] at h1
      obtain rfl := Option.some.inj h1
      exact turn i _ (List.getElem?_eq_getElem hi2) G' H' _ _ a2 (env_set (d := .d _) (dp_mono a1 _ _ h2) a3) a4 fun G2 H2 σ2 g2 gh2 en2 j2 => ⟨G2, a1.trans g2, gh2, en2, j2⟩
    · rw [dpa_len r] at a3 a4
      exact f G' H' σ' (g1.trans a1) a2 a3 a4
theorem s_forR1 {tr : TA} {n : Nat} {j : Nat} (hn : n ≤ 1000000) (P : Nat → Rho) (V : Nat → Asn) (hl : A K tr ρ I [.i (n : Nat)] (V 0)) (h0 : ρ = P 0)
    (turn : ∀ i : Nat, i < n → S K ts ((P i).set j (some (.i (i : Nat)))) (V i) (.nx (P (i + 1)) (V (i + 1)))) : S K (tFor (iRng1 tr) (gName j) ts) ρ I (.nx (P n) (V n)) := fun G H σ D gh en io f => by
  refine hl G H σ gh en io _ fun vs G1 H1 g1 gh1 j1 dv => ?_
  obtain ⟨v, rfl, h1⟩ := dva1 dv
  obtain rfl := dv_int h1
  subst h0
  refine ⟨(n : Int), rfl, by omega, by omega, ?_⟩
  refine for_range (lo := 0) (n := (n : Int).toNat) (fun i σ' H' => ∃ G', Same G1 G' ∧ Same G' H' ∧ EnvD K G' σ' (P i) ∧ (V i).ok G' H') ⟨G1, Same.refl _, gh1, env_mono g1 en, j1⟩ (fun i σ' H' hx ⟨G', a1, a2, a3, a4⟩ => ?_) (fun σ' H' ⟨G', a1, a2, a3, a4⟩ => ?_)
  · have e : (0 : Int) + (i : Int) = (i : Int) := Int.zero_add _
    rw [e]
    exact turn i (by omega) G' H' _ _ a2 (env_set (d := .i (i : Nat)) (.int _) a3) a4 fun G2 H2 σ2 g2 gh2 en2 j2 => ⟨G2, a1.trans g2, gh2, en2, j2⟩
  · rw [Int.toNat_natCast] at a3 a4
    exact f G' H' σ' (g1.trans a1) a2 a3 a4
/-! ### defs that change nothing -/
/-- the tables at T are known wherever J holds -/
class HasT (T : List Addr) (J : Asn) : Prop where
  get : ∀ G H, J.ok G H → TabsIn T G
instance : HasT [] J := ⟨fun _ _ _ p hp => by cases hp⟩
instance {T : List Addr} [h : HasT T J] : HasT T (I.and J) := ⟨fun G H z => h.get G H z.2⟩
def Asn.tab (T : List Addr) : Asn := ⟨NoA, fun G _ => TabsIn T G, fun _ _ _ _ _ _ s h => h.mono s.gg, fun _ _ _ _ z => z.elim⟩
instance {T : List Addr} : HasT T (Asn.tab T) := ⟨fun _ _ z => z⟩
/-- R ds d: of the arguments ds it hands back d; the tables at T may grow -/
def spT (K : PySem.W.Frag) (T : List Addr) (R : List Dat → Dat → Prop) : Sp := fun vs H Q _ => ∃ G ds d, Same G H ∧ DvAll K G vs ds ∧ R ds d ∧ TabsIn T G ∧ ∀ v G2 H2, Stp NoA G H G2 H2 → Dv K G2 v d → Q v H2
abbrev spP (K : PySem.W.Frag) (R : List Dat → Dat → Prop) : Sp := spT K [] R
theorem e_call {T : List Addr} {R : List Dat → Dat → Prop} {X : XK} {tr : TA} {ds : List Dat} [hT : HasT T J] (hr : A K tr ρ I ds J) (h : R ds d) : E K (tCall (spT K T R) [] X tr) ρ I d J := fun G H σ gh en io Q q => hr G H σ gh en io _ fun vs G1 H1 g1 gh1 j1 dvs => by
  rw [List.append_nil]
  exact ⟨G1, ds, d, gh1, dvs, h, hT.get _ _ j1, fun v G2 H2 s dv => q v G2 H2 (g1.trans s.gg) s.gh (Asn.pure_st s j1) dv⟩
theorem body_T {T : List Addr} {R : List Dat → Dat → Prop} {N : List Str} {vs : List V} {H : Hp} {Q : VK} {X : XK} (hb : ∀ ds d, R ds d → ∀ I, HasT T I → S K ts (ds.map some ++ List.replicate (N.length - ds.length) none) I (.rt d I)) (h : spT K T R vs H Q X) :
    ts { nx := fun _ H' => Q .non H', rt := Q } (L2.start N vs) H := by
  obtain ⟨G, ds, d, gh, dvs, r, tb, q⟩ := h
  refine hb ds d r ((Asn.since NoA G H).and (Asn.tab T)) inferInstance G H _ _ gh ?_ ⟨Stp.refl gh, tb⟩ fun v G2 H2 g2 gh2 j2 dv => q v G2 H2 j2.1 dv
  unfold L2.start
  rw [dva_len dvs]
  exact env_start _ dvs
theorem body_P {R : List Dat → Dat → Prop} {N : List Str} {vs : List V} {H : Hp} {Q : VK} {X : XK} (hb : ∀ ds d, R ds d → ∀ I, S K ts (ds.map some ++ List.replicate (N.length - ds.length) none) I (.rt d I)) (h : spP K R vs H Q X) :
    ts { nx := fun _ H' => Q .non H', rt := Q } (L2.start N vs) H := body_T (fun ds d r I _ => hb ds d r I) h
theorem len_P {T : List Addr} {R : List Dat → Dat → Prop} {n : Nat} (hl : ∀ ds d, R ds d → ds.length = n) {vs : List V} {H : Hp} {Q : VK} {X : XK} (h : spT K T R vs H Q X) : vs.length = n := by
  obtain ⟨G, ds, d, gh, dvs, r, _, q⟩ := h
  rw [dva_len dvs, hl ds d r]
end
end PL

namespace PL
open PySem PySem.Spec PyProof.Rows L2

/-! ### the drawing list -/
structure DS where
  a : Addr
  ns : List Int
  pos : Nat
  rest : Int
  seed : Int
def dO (S : DS) : HO := .lst [.ref S.a, .int (S.pos : Nat), .int S.rest, .int S.seed]
section
variable {K : PySem.W.Frag} {ρ ρ1 : Rho} {I J L N : Asn} {ta tb tc te : TE} {d e : Dat} {t u : TT} {b c : Bool} {p : Addr} {C C' : DS}
def dA (K : PySem.W.Frag) (p : Addr) (C : DS) : Asn := ⟨(· = p), fun G H => G p = none ∧ H p = some (dO C) ∧ SqL K G C.a (C.ns.map V.int), fun M G H G2 H2 n s h =>
  ⟨s.fr p _ (n p rfl) h.2.1 h.1, s.hh p _ (n p rfl) h.2.1, s.gg.seq h.2.2⟩, fun G H a h (z : a = p) => ⟨dO C, by rw [z]; exact h.2.1⟩⟩
abbrev dJ (K : PySem.W.Frag) (p : Addr) (C : DS) (J : Asn) : Asn := (dA K p C).and J
def dS (C : DS) : List Dat := [.d (.list (C.ns.map PyData.int)), .i (C.pos : Nat), .i C.rest, .i C.seed]
theorem e_dix {j : Nat} {x : Dat} (ha : E K ta ρ I (.r p) (dJ K p C J)) (hb : E K tb ρ (dJ K p C J) (.i (j : Nat)) (dJ K p C J)) (h : (dS C)[j]? = some x) : E K (tOp (rIxL K) ta tb) ρ I x (dJ K p C J) :=
  e_op ha hb fun G H v w gh lo dx dy Q q => by
    obtain rfl : v = .ref p := dx
    obtain rfl := dv_int dy
    obtain ⟨⟨l1, l2, l3⟩, l4⟩ := lo
    have done : ∀ y, atI [V.ref C.a, V.int (C.pos : Nat), V.int C.rest, V.int C.seed] (j : Int) = some y → Dv K G y x → rIxL K (.ref p) (.int (j : Int)) H Q := fun y hy dvy =>
      ⟨p, _, _, y, rfl, rfl, .inl (.inl l2), hy, q y G H (Same.refl _) gh ⟨⟨l1, l2, l3⟩, l4⟩ dvy⟩
    match j, h with
    | 0, h =>
      obtain rfl := Option.some.inj h
      exact done (.ref C.a) (atI_nat (j := 0) rfl) (.lst l3 (dpa_ints _))
    | 1, h =>
      obtain rfl := Option.some.inj h
      exact done _ (atI_nat (j := 1) rfl) (.int _)
    | 2, h =>
      obtain rfl := Option.some.inj h
      exact done _ (atI_nat (j := 2) rfl) (.int _)
    | 3, h =>
      obtain rfl := Option.some.inj h
      exact done _ (atI_nat (j := 3) rfl) (.int _)
    | n + 4, h => simp [dS] at h
/-- a store into it -/
theorem s_dset {x : Int} {j : Nat} (he : E K te ρ I (.i x) (dJ K p C J)) (ha : E K ta ρ (dJ K p C J) (.r p) (dJ K p C J)) (hb : E K tb ρ (dJ K p C J) (.i (j : Nat)) (dJ K p C J)) (hj : j < 4)
    (h : HO.lst ([V.ref C.a, V.int (C.pos : Nat), V.int C.rest, V.int C.seed].set j (.int x)) = dO C') (h2 : C'.a = C.a ∧ C'.ns = C.ns) (hf : ¬ J.foot p) :
    S K (tAsg te (gSub ta tb rSetL)) ρ I (.nx ρ (dJ K p C' J)) := fun G H σ D gh en io f => he G H σ gh en io _ fun v G1 H1 g1 gh1 j1 dv =>
  ha G1 H1 σ gh1 (env_mono g1 en) j1 _ fun o G2 H2 g2 gh2 j2 do_ => hb G2 H2 σ gh2 (env_mono (g1.trans g2) en) j2 _ fun i G3 H3 g3 gh3 j3 di => by
    obtain rfl := dv_int dv
    obtain rfl : o = .ref p := do_
    obtain rfl := dv_int di
    obtain ⟨⟨l1, l2, l3⟩, l4⟩ := j3
    have s := Stp.store (o := dO C') gh3 l1 l2
    refine ⟨p, _, (j : Int), j, rfl, rfl, l2, ?_, ?_⟩
    · unfold ixN
      rw [if_pos (by omega), if_pos (by show (j : Int) < (4 : Nat); omega)]
      simp
    · rw [h]
      refine f _ _ σ ((g1.trans g2).trans g3) s.gh (env_mono ((g1.trans g2).trans g3) en) ⟨⟨l1, upd_same, ?_⟩, J.st _ _ _ _ _ (fun a fa (z : a = p) => hf (z ▸ fa)) s l4⟩
      rw [h2.1, h2.2]
      exact l3
abbrev rInt1 : List V → Hp → VK → Prop := fun xs H Q => (∃ i, xs = [.int i] ∧ Q (.int i) H) ∨ ∃ k, xs = [.bl k] ∧ Q (.int (if k then 1 else 0)) H
theorem e_int1 {i : Int} {tr : TA} (hr : A K tr ρ I [.i i] J) : E K (tCB (fun xs H Q => (∃ i, xs = [.int i] ∧ Q (.int i) H) ∨ ∃ k, xs = [.bl k] ∧ Q (.int (if k then 1 else 0)) H) tr) ρ I (.i i) J :=
  e_cb hr fun G H vs gh jo h Q q => by
    obtain ⟨v, rfl, h1⟩ := dva1 h
    obtain rfl := dv_int h1
    exact .inl ⟨i, rfl, q _ G H (Same.refl _) gh jo (.int _)⟩
theorem e_abs {i : Int} {tr : TA} (hr : A K tr ρ I [.i i] J) : E K (tCB (fun xs H Q => ∃ i, xs = [.int i] ∧ Q (.int (if i < 0 then -i else i)) H) tr) ρ I (.i (i.natAbs : Nat)) J :=
  e_cb hr fun G H vs gh jo h Q q => by
    obtain ⟨v, rfl, h1⟩ := dva1 h
    obtain rfl := dv_int h1
    refine ⟨i, rfl, ?_⟩
    have z : (if i < 0 then -i else i) = (i.natAbs : Int) := by
      split <;> omega
    rw [z]
    exact q _ G H (Same.refl _) gh jo (.int _)
/-- defs that draw: R ds C d C': of the arguments p, ds and the list as C they hand back d and leave it as C' -/
def spW (K : PySem.W.Frag) (R : List Dat → DS → Dat → DS → Prop) : Sp := fun vs H Q _ => ∃ G ds d p C C', Same G H ∧ DvAll K G vs (.r p :: ds) ∧ (dA K p C).ok G H ∧ R ds C d C' ∧ ∀ v G2 H2, Stp (· = p) G H G2 H2 → (dA K p C').ok G2 H2 → Dv K G2 v d → Q v H2
theorem e_draw {R : List Dat → DS → Dat → DS → Prop} {X : XK} {tr : TA} {ds : List Dat} (hr : A K tr ρ I (.r p :: ds) (dJ K p C J)) (h : R ds C d C') (hf : ¬ J.foot p) : E K (tCall (spW K R) [] X tr) ρ I d (dJ K p C' J) := fun G H σ gh en io Q q => hr G H σ gh en io _ fun vs G1 H1 g1 gh1 j1 dvs => by
  rw [List.append_nil]
  exact ⟨G1, ds, d, p, C, C', gh1, dvs, j1.1, h, fun v G2 H2 s k dv => q v G2 H2 (g1.trans s.gg) s.gh ⟨k, J.st _ _ _ _ _ (fun a fa (z : a = p) => hf (z ▸ fa)) s j1.2⟩ dv⟩
theorem body_W {ts : TS} {R : List Dat → DS → Dat → DS → Prop} {N : List Str} {vs : List V} {H : Hp} {Q : VK} {X : XK} (hb : ∀ ds C d C', R ds C d C' → ∀ p J, ¬ J.foot p → S K ts (some (.r p) :: (ds.map some ++ List.replicate (N.length - (ds.length + 1)) none)) (dJ K p C J) (.rt d (dJ K p C' J))) (h : spW K R vs H Q X) :
    ts { nx := fun _ H' => Q .non H', rt := Q } (L2.start N vs) H := by
  obtain ⟨G, ds, d, p, C, C', gh, dvs, k, r, q⟩ := h
  refine hb ds C d C' r p (Asn.since (· = p) G H) (fun z => z.1 rfl) G H _ _ gh ?_ ⟨k, Stp.refl gh⟩ fun v G2 H2 g2 gh2 j2 dv => q v G2 H2 j2.2 j2.1 dv
  unfold L2.start
  rw [dva_len dvs, List.length_cons]
  exact env_start (ds := .r p :: ds) _ dvs
theorem len_W {R : List Dat → DS → Dat → DS → Prop} {n : Nat} (hl : ∀ ds C d C', R ds C d C' → ds.length + 1 = n) {vs : List V} {H : Hp} {Q : VK} {X : XK} (h : spW K R vs H Q X) : vs.length = n := by
  obtain ⟨G, ds, d, p, C, C', gh, dvs, k, r, q⟩ := h
  rw [dva_len dvs, List.length_cons, hl ds C d C' r]
/-! ### the draws themselves -/
def take1 (C : DS) (m : Int) : Int × DS :=
  if 0 < C.rest then (C.rest % m, { C with rest := C.rest / m })
  else (((C.seed * 48271 + 11) % 2147483647 / 3) % m, { C with seed := (C.seed * 48271 + 11) % 2147483647 })
def take (C : DS) (m : Int) : Int × DS :=
  if C.rest = 0 ∧ C.pos < C.ns.length then
    if ((C.ns.getD C.pos 0).natAbs : Int) < 10 ^ 18 then (((C.ns.getD C.pos 0).natAbs : Int) % m, { C with pos := C.pos + 1, rest := 0 })
    else take1 { C with pos := C.pos + 1, rest := ((C.ns.getD C.pos 0).natAbs : Int) } m
  else take1 C m
structure DOk (C : DS) : Prop where
  r : 0 ≤ C.rest
  s : 0 ≤ C.seed ∧ C.seed < 2147483647
theorem take1_ok {C : DS} {m : Int} (h : DOk C) (hm : 0 < m) : DOk (take1 C m).2 ∧ 0 ≤ (take1 C m).1 ∧ (take1 C m).1 < m := by
  unfold take1
  split
  · exact ⟨⟨Int.ediv_nonneg h.r (Int.le_of_lt hm), h.s⟩, Int.emod_nonneg _ (by omega), Int.emod_lt_of_pos _ hm⟩
  · exact ⟨⟨h.r, Int.emod_nonneg _ (by decide), Int.emod_lt_of_pos _ (by decide)⟩, Int.emod_nonneg _ (by omega), Int.emod_lt_of_pos _ hm⟩
theorem take_ok {C : DS} {m : Int} (h : DOk C) (hm : 0 < m) : DOk (take C m).2 ∧ 0 ≤ (take C m).1 ∧ (take C m).1 < m := by
  unfold take
  split
  · split
    · exact ⟨⟨Int.le_refl _, h.s⟩, Int.emod_nonneg _ (by omega), Int.emod_lt_of_pos _ hm⟩
    · exact take1_ok ⟨by show (0 : Int) ≤ ((C.ns.getD C.pos 0).natAbs : Int); omega, h.s⟩ hm
  · exact take1_ok h hm
end
end PL

/-! Fractions as pairs of integers: the program's own sums and products are the lowest terms. Plain Lean. -/
namespace FR
abbrev F := Int × Int
def Nrm (a : F) : Prop := 0 < a.2 ∧ Int.gcd a.1 a.2 = 1
/-- the lowest terms of n over d, d above 0 -/
def nf (n d : Int) : F := (n / (Int.gcd n d : Int), d / (Int.gcd n d : Int))
def lf (n d : Int) : F := if d < 0 then nf (0 - n) (0 - d) else nf n d

theorem nf_nrm {n d : Int} (h : 0 < d) : Nrm (nf n d) := by
  have g0 : 0 < Int.gcd n d := Int.gcd_pos_of_ne_zero_right n (by omega)
  refine ⟨?_, Int.gcd_ediv_gcd_ediv_gcd g0⟩
  have dv : (Int.gcd n d : Int) ∣ d := Int.gcd_dvd_right n d
  exact Int.ediv_pos_of_pos_of_dvd h (by omega) dv
theorem lf_nrm {n d : Int} (h : d ≠ 0) : Nrm (lf n d) := by
  unfold lf
  split
  · exact nf_nrm (by omega)
  · exact nf_nrm (by omega)
theorem nf_mul1 {n d : Int} (h : 0 < d) : (nf n d).1 * d = n * (nf n d).2 := by
  have g0 : 0 < Int.gcd n d := Int.gcd_pos_of_ne_zero_right n (by omega)
  obtain ⟨x, hx⟩ := Int.gcd_dvd_left n d
  obtain ⟨y, hy⟩ := Int.gcd_dvd_right n d
  have e1 : n / (Int.gcd n d : Int) = x := by
    rw [Int.ediv_eq_of_eq_mul_right (by omega) hx]
  have e2 : d / (Int.gcd n d : Int) = y := by
    rw [Int.ediv_eq_of_eq_mul_right (by omega) hy]
  show n / (Int.gcd n d : Int) * d = n * (d / (Int.gcd n d : Int))
  rw [e1, e2]
  conv => lhs; rw [hy]
  conv => rhs; rw [hx]
  grind
/-- lowest terms are one -/
theorem nrm_one {a b : F} (ha : Nrm a) (hb : Nrm b) (h : a.1 * b.2 = b.1 * a.2) : a = b := by
  obtain ⟨a1, a2⟩ := a
  obtain ⟨b1, b2⟩ := b
  obtain ⟨pa, ga⟩ := ha
  obtain ⟨pb, gb⟩ := hb
  simp only at *
  have d1 : a2 ∣ b2 := by
    have z : a2 ∣ a1 * b2 := ⟨b1, by rw [h]; grind⟩
    exact (Int.dvd_gcd_mul_iff_dvd_mul (k := a2) (n := a1) (m := b2)).mpr z |> fun q => by
      rw [Int.gcd_comm, ga] at q
      simpa using q
  have d2 : b2 ∣ a2 := by
    have z : b2 ∣ b1 * a2 := ⟨a1, by rw [← h]; grind⟩
    exact (Int.dvd_gcd_mul_iff_dvd_mul (k := b2) (n := b1) (m := a2)).mpr z |> fun q => by
      rw [Int.gcd_comm, gb] at q
      simpa using q
  have e : a2 = b2 := Int.le_antisymm (Int.le_of_dvd pb d1) (Int.le_of_dvd pa d2)
  subst e
  have e2 : a1 = b1 := Int.eq_of_mul_eq_mul_right (by omega) h
  rw [e2]
theorem nf_of {a : F} {n d : Int} (ha : Nrm a) (hd : 0 < d) (h : a.1 * d = n * a.2) : a = nf n d := by
  refine nrm_one ha (nf_nrm hd) ?_
  have z := nf_mul1 (n := n) hd
  have w : (a.1 * (nf n d).2) * d = ((nf n d).1 * a.2) * d := by
    grind
  exact Int.eq_of_mul_eq_mul_right (by omega) w
theorem nf_self {a : F} (ha : Nrm a) : nf a.1 a.2 = a := (nf_of ha ha.1 rfl).symm
theorem nf_eq {n d m e : Int} (hd : 0 < d) (he : 0 < e) (h : n * e = m * d) : nf n d = nf m e := by
  refine nf_of (nf_nrm hd) he ?_
  have z := nf_mul1 (n := n) hd
  have w : ((nf n d).1 * e) * d = (m * (nf n d).2) * d := by grind
  exact Int.eq_of_mul_eq_mul_right (by omega) w

/-! ### the program's own -/
def plusM (a b : F) : F :=
  let s : Int := (Int.gcd a.2 b.2 : Int)
  let t := a.2 / s
  let n := a.1 * (b.2 / s) + b.1 * t
  let v : Int := (Int.gcd n s : Int)
  (n / v, t * (b.2 / v))
def minusM (a b : F) : F := plusM a (-b.1, b.2)
def timesM (a b : F) : F :=
  let f : Int := (Int.gcd a.1 b.2 : Int)
  let s : Int := (Int.gcd b.1 a.2 : Int)
  ((a.1 / f) * (b.1 / s), (a.2 / s) * (b.2 / f))
theorem gcd_one_of {x y z : Int} (h : Int.gcd x y = 1) (d : z ∣ x) : Int.gcd z y = 1 := by
  have q := Int.gcd_dvd_gcd_of_dvd_left y d
  rw [h] at q
  exact Nat.dvd_one.mp q
theorem gcd_one_of2 {x y z : Int} (h : Int.gcd x y = 1) (d : z ∣ y) : Int.gcd x z = 1 := by
  rw [Int.gcd_comm] at h ⊢
  exact gcd_one_of h d
theorem gcd_add {x y k : Int} : Int.gcd (x + k * y) y = Int.gcd x y := by
  simp
theorem plus_nrm {a b : F} (ha : Nrm a) (hb : Nrm b) : Nrm (plusM a b) := by
  obtain ⟨x, p⟩ := a
  obtain ⟨y, q⟩ := b
  obtain ⟨pp, gp⟩ := ha
  obtain ⟨pq, gq⟩ := hb
  simp only at *
  have s0 : 0 < Int.gcd p q := Int.gcd_pos_of_ne_zero_right p (by omega)
  obtain ⟨p', hp⟩ := Int.gcd_dvd_left p q
  obtain ⟨q', hq⟩ := Int.gcd_dvd_right p q
  generalize hs : Int.gcd p q = s at *
  have ep : p / (s : Int) = p' := by rw [Int.ediv_eq_of_eq_mul_right (by omega) hp]
  have eq : q / (s : Int) = q' := by rw [Int.ediv_eq_of_eq_mul_right (by omega) hq]
  have pp' : 0 < p' := by
    rw [← ep]
    exact Int.ediv_pos_of_pos_of_dvd pp (by omega) ⟨p', hp⟩
  have pq' : 0 < q' := by
    rw [← eq]
    exact Int.ediv_pos_of_pos_of_dvd pq (by omega) ⟨q', hq⟩
  have cop : Int.gcd p' q' = 1 := by
    have z := Int.gcd_ediv_gcd_ediv_gcd (i := p) (j := q) (by rw [hs]; omega)
    rw [hs, ep, eq] at z
    exact z
  generalize hn : x * q' + y * p' = n
  have v0 : 0 < Int.gcd n (s : Int) := Int.gcd_pos_of_ne_zero_right n (by omega)
  have vd : (Int.gcd n (s : Int) : Int) ∣ (s : Int) := Int.gcd_dvd_right n s
  have vn : (Int.gcd n (s : Int) : Int) ∣ n := Int.gcd_dvd_left n s
  have cq : Int.gcd (n / (Int.gcd n (s : Int) : Int)) ((s : Int) / (Int.gcd n (s : Int) : Int)) = 1 := Int.gcd_ediv_gcd_ediv_gcd v0
  have dn : n / (Int.gcd n (s : Int) : Int) ∣ n := ⟨(Int.gcd n (s : Int) : Int), (Int.ediv_mul_cancel vn).symm⟩
  have np' : Int.gcd n p' = 1 := by
    have e1 : Int.gcd n p' = Int.gcd (x * q') p' := by
      rw [← hn]
      exact gcd_add
    have e2 : Int.gcd x p' = 1 := gcd_one_of2 gp ⟨s, by rw [hp]; grind⟩
    rw [e1, Int.gcd_mul_right_left_of_gcd_eq_one e2, Int.gcd_comm]
    exact cop
  have nq' : Int.gcd n q' = 1 := by
    have e1 : Int.gcd n q' = Int.gcd (y * p') q' := by
      rw [← hn, Int.add_comm]
      exact gcd_add
    have e2 : Int.gcd y q' = 1 := gcd_one_of2 gq ⟨s, by rw [hq]; grind⟩
    rw [e1, Int.gcd_mul_right_left_of_gcd_eq_one e2]
    exact cop
  have eqv : q / (Int.gcd n (s : Int) : Int) = q' * ((s : Int) / (Int.gcd n (s : Int) : Int)) := by
    rw [hq, Int.mul_comm, Int.mul_ediv_assoc _ vd]
  show 0 < (p / (Int.gcd p q : Int)) * (q / (Int.gcd (x * (q / (Int.gcd p q : Int)) + y * (p / (Int.gcd p q : Int))) (Int.gcd p q : Int) : Int)) ∧ Int.gcd ((x * (q / (Int.gcd p q : Int)) + y * (p / (Int.gcd p q : Int))) / (Int.gcd (x * (q / (Int.gcd p q : Int)) + y * (p / (Int.gcd p q : Int))) (Int.gcd p q : Int) : Int)) ((p / (Int.gcd p q : Int)) * (q / (Int.gcd (x * (q / (Int.gcd p q : Int)) + y * (p / (Int.gcd p q : Int))) (Int.gcd p q : Int) : Int))) = 1
  rw [hs, ep, eq, hn, eqv]
  have psv : 0 < (s : Int) / (Int.gcd n (s : Int) : Int) := Int.ediv_pos_of_pos_of_dvd (by omega) (by omega) vd
  refine ⟨Int.mul_pos pp' (Int.mul_pos pq' psv), ?_⟩
  rw [Int.gcd_mul_right_right_of_gcd_eq_one (gcd_one_of np' dn), Int.gcd_mul_right_right_of_gcd_eq_one (gcd_one_of nq' dn)]
  exact cq
theorem plus_eq {a b : F} (ha : Nrm a) (hb : Nrm b) : plusM a b = nf (a.1 * b.2 + b.1 * a.2) (a.2 * b.2) := by
  refine nf_of (plus_nrm ha hb) (Int.mul_pos ha.1 hb.1) ?_
  obtain ⟨x, p⟩ := a
  obtain ⟨y, q⟩ := b
  obtain ⟨pp, gp⟩ := ha
  obtain ⟨pq, gq⟩ := hb
  simp only at *
  have s0 : 0 < Int.gcd p q := Int.gcd_pos_of_ne_zero_right p (by omega)
  obtain ⟨p', hp⟩ := Int.gcd_dvd_left p q
  obtain ⟨q', hq⟩ := Int.gcd_dvd_right p q
  generalize hs : Int.gcd p q = s at *
  have ep : p / (s : Int) = p' := by rw [Int.ediv_eq_of_eq_mul_right (by omega) hp]
  have eq : q / (s : Int) = q' := by rw [Int.ediv_eq_of_eq_mul_right (by omega) hq]
  generalize hn : x * q' + y * p' = n
  have v0 : 0 < Int.gcd n (s : Int) := Int.gcd_pos_of_ne_zero_right n (by omega)
  obtain ⟨n', vn⟩ := Int.gcd_dvd_left n (s : Int)
  obtain ⟨s', vs⟩ := Int.gcd_dvd_right n (s : Int)
  generalize hv : Int.gcd n (s : Int) = v at *
  have en : n / (v : Int) = n' := by rw [Int.ediv_eq_of_eq_mul_right (by omega) vn]
  have eqv : q / (v : Int) = s' * q' := by
    rw [Int.ediv_eq_of_eq_mul_right (by omega) (show q = (v : Int) * (s' * q') by rw [← Int.mul_assoc, ← vs, ← hq])]
  show ((x * (q / (Int.gcd p q : Int)) + y * (p / (Int.gcd p q : Int))) / (Int.gcd (x * (q / (Int.gcd p q : Int)) + y * (p / (Int.gcd p q : Int))) (Int.gcd p q : Int) : Int)) * (p * q) = (x * q + y * p) * ((p / (Int.gcd p q : Int)) * (q / (Int.gcd (x * (q / (Int.gcd p q : Int)) + y * (p / (Int.gcd p q : Int))) (Int.gcd p q : Int) : Int)))
  rw [hs, ep, eq, hn, hv, en, eqv]
  have e1 : x * q + y * p = (s : Int) * n := by
    rw [← hn, hp, hq]
    grind
  rw [e1, hp, hq, vn]
  conv => lhs; rw [vs]
  conv => rhs; rw [vs]
  grind
theorem times_nrm {a b : F} (ha : Nrm a) (hb : Nrm b) : Nrm (timesM a b) := by
  obtain ⟨x, p⟩ := a
  obtain ⟨y, q⟩ := b
  obtain ⟨pp, gp⟩ := ha
  obtain ⟨pq, gq⟩ := hb
  simp only at *
  have f0 : 0 < Int.gcd x q := Int.gcd_pos_of_ne_zero_right x (by omega)
  have s0 : 0 < Int.gcd y p := Int.gcd_pos_of_ne_zero_right y (by omega)
  have d1 := Int.gcd_dvd_left x q
  have d2 := Int.gcd_dvd_right x q
  have d3 := Int.gcd_dvd_left y p
  have d4 := Int.gcd_dvd_right y p
  have c1 : Int.gcd (x / (Int.gcd x q : Int)) (q / (Int.gcd x q : Int)) = 1 := Int.gcd_ediv_gcd_ediv_gcd f0
  have c2 : Int.gcd (y / (Int.gcd y p : Int)) (p / (Int.gcd y p : Int)) = 1 := Int.gcd_ediv_gcd_ediv_gcd s0
  have m1 : x / (Int.gcd x q : Int) ∣ x := ⟨_, (Int.ediv_mul_cancel d1).symm⟩
  have m2 : q / (Int.gcd x q : Int) ∣ q := ⟨_, (Int.ediv_mul_cancel d2).symm⟩
  have m3 : y / (Int.gcd y p : Int) ∣ y := ⟨_, (Int.ediv_mul_cancel d3).symm⟩
  have m4 : p / (Int.gcd y p : Int) ∣ p := ⟨_, (Int.ediv_mul_cancel d4).symm⟩
  have c3 : Int.gcd (x / (Int.gcd x q : Int)) (p / (Int.gcd y p : Int)) = 1 := gcd_one_of (gcd_one_of2 gp m4) m1
  have c4 : Int.gcd (y / (Int.gcd y p : Int)) (q / (Int.gcd x q : Int)) = 1 := gcd_one_of (gcd_one_of2 gq m2) m3
  refine ⟨Int.mul_pos (Int.ediv_pos_of_pos_of_dvd pp (by omega) d4) (Int.ediv_pos_of_pos_of_dvd pq (by omega) d2), ?_⟩
  show Int.gcd ((x / (Int.gcd x q : Int)) * (y / (Int.gcd y p : Int))) ((p / (Int.gcd y p : Int)) * (q / (Int.gcd x q : Int))) = 1
  have t1 : Int.gcd ((x / (Int.gcd x q : Int)) * (y / (Int.gcd y p : Int))) (p / (Int.gcd y p : Int)) = 1 := by
    rw [Int.gcd_mul_right_left_of_gcd_eq_one c3]
    exact c2
  rw [Int.gcd_mul_right_right_of_gcd_eq_one t1, Int.gcd_mul_right_left_of_gcd_eq_one c1]
  exact c4
theorem times_eq {a b : F} (ha : Nrm a) (hb : Nrm b) : timesM a b = nf (a.1 * b.1) (a.2 * b.2) := by
  refine nf_of (times_nrm ha hb) (Int.mul_pos ha.1 hb.1) ?_
  obtain ⟨x, p⟩ := a
  obtain ⟨y, q⟩ := b
  obtain ⟨pp, gp⟩ := ha
  obtain ⟨pq, gq⟩ := hb
  simp only at *
  have f0 : 0 < Int.gcd x q := Int.gcd_pos_of_ne_zero_right x (by omega)
  have s0 : 0 < Int.gcd y p := Int.gcd_pos_of_ne_zero_right y (by omega)
  obtain ⟨x', h1⟩ := Int.gcd_dvd_left x q
  obtain ⟨q', h2⟩ := Int.gcd_dvd_right x q
  obtain ⟨y', h3⟩ := Int.gcd_dvd_left y p
  obtain ⟨p', h4⟩ := Int.gcd_dvd_right y p
  show ((x / (Int.gcd x q : Int)) * (y / (Int.gcd y p : Int))) * (p * q) = (x * y) * ((p / (Int.gcd y p : Int)) * (q / (Int.gcd x q : Int)))
  generalize hf : Int.gcd x q = f at *
  generalize hs : Int.gcd y p = s at *
  have e1 : x / (f : Int) = x' := by rw [Int.ediv_eq_of_eq_mul_right (by omega) h1]
  have e2 : q / (f : Int) = q' := by rw [Int.ediv_eq_of_eq_mul_right (by omega) h2]
  have e3 : y / (s : Int) = y' := by rw [Int.ediv_eq_of_eq_mul_right (by omega) h3]
  have e4 : p / (s : Int) = p' := by rw [Int.ediv_eq_of_eq_mul_right (by omega) h4]
  rw [e1, e2, e3, e4, h1, h2, h3, h4]
  grind
theorem neg_nrm {b : F} (hb : Nrm b) : Nrm (-b.1, b.2) := ⟨hb.1, by
  show Int.gcd (-b.1) b.2 = 1
  rw [Int.neg_gcd]
  exact hb.2⟩
theorem minus_eq {a b : F} (ha : Nrm a) (hb : Nrm b) : minusM a b = nf (a.1 * b.2 - b.1 * a.2) (a.2 * b.2) := by
  unfold minusM
  rw [plus_eq ha (neg_nrm hb)]
  show nf (a.1 * b.2 + -b.1 * a.2) (a.2 * b.2) = _
  rw [Int.neg_mul, ← Int.sub_eq_add_neg]
theorem minus_nrm {a b : F} (ha : Nrm a) (hb : Nrm b) : Nrm (minusM a b) := plus_nrm ha (neg_nrm hb)

/-! ### sizes -/
def Sz (n : Nat) (a : F) : Prop := a.1.natAbs < 2 ^ n ∧ a.2.natAbs < 2 ^ n
theorem sz_le {x : Int} {m n : Nat} (h : x.natAbs < 2 ^ m) (hm : m ≤ n) : x.natAbs < 2 ^ n := Nat.lt_of_lt_of_le h (Nat.pow_le_pow_right (by decide) hm)
theorem Sz.mono {m n : Nat} {a : F} (h : Sz m a) (hm : m ≤ n) : Sz n a := ⟨sz_le h.1 hm, sz_le h.2 hm⟩
theorem sz_mul {x y : Int} {m n : Nat} (h : x.natAbs < 2 ^ m) (k : y.natAbs < 2 ^ n) : (x * y).natAbs < 2 ^ (m + n) := by
  rw [Int.natAbs_mul, Nat.pow_add]
  exact Nat.mul_lt_mul'' h k
theorem sz_add {x y : Int} {m : Nat} (h : x.natAbs < 2 ^ m) (k : y.natAbs < 2 ^ m) : (x + y).natAbs < 2 ^ (m + 1) := by
  rw [Nat.pow_succ]
  omega
theorem sz_sub {x y : Int} {m : Nat} (h : x.natAbs < 2 ^ m) (k : y.natAbs < 2 ^ m) : (x - y).natAbs < 2 ^ (m + 1) := by
  rw [Nat.pow_succ]
  omega
theorem sz_neg {x : Int} {m : Nat} (h : x.natAbs < 2 ^ m) : (-x).natAbs < 2 ^ m := by
  rw [Int.natAbs_neg]
  exact h
theorem sz_div {x y : Int} {m : Nat} (h : x.natAbs < 2 ^ m) (d : y ∣ x) : (x / y).natAbs < 2 ^ m := by
  rw [Int.natAbs_ediv_of_dvd d]
  exact Nat.lt_of_le_of_lt (Nat.div_le_self _ _) h
theorem sz_gcd {x y : Int} {m : Nat} (h : y.natAbs < 2 ^ m) (hy : y ≠ 0) : ((Int.gcd x y : Nat) : Int).natAbs < 2 ^ m := Nat.lt_of_le_of_lt (by rw [Int.natAbs_natCast]; exact Int.gcd_le_natAbs_right x hy) h
theorem sz_nf {n d : Int} {m : Nat} (h : n.natAbs < 2 ^ m) (k : d.natAbs < 2 ^ m) : Sz m (nf n d) := ⟨sz_div h (Int.gcd_dvd_left n d), sz_div k (Int.gcd_dvd_right n d)⟩
theorem sz_plus {a b : F} {m n : Nat} (ha : Nrm a) (hb : Nrm b) (h : Sz m a) (k : Sz n b) : Sz (m + n + 1) (plusM a b) := by
  rw [plus_eq ha hb]
  refine sz_nf (sz_add (sz_mul h.1 k.2) ?_) (sz_le (sz_mul h.2 k.2) (by omega))
  rw [Nat.add_comm m n]
  exact sz_mul k.1 h.2
theorem sz_minus {a b : F} {m n : Nat} (ha : Nrm a) (hb : Nrm b) (h : Sz m a) (k : Sz n b) : Sz (m + n + 1) (minusM a b) := sz_plus ha (neg_nrm hb) h ⟨sz_neg k.1, k.2⟩
theorem sz_times {a b : F} {m n : Nat} (ha : Nrm a) (hb : Nrm b) (h : Sz m a) (k : Sz n b) : Sz (m + n) (timesM a b) := by
  rw [times_eq ha hb]
  exact sz_nf (sz_mul h.1 k.1) (sz_mul h.2 k.2)
/-! ### the law's own gcd -/
theorem gcd_step (a b : Int) : Int.gcd b (a % b) = Int.gcd a b := by
  have e : a % b = a + (-(a / b)) * b := by
    rw [Int.emod_def]
    grind
  rw [Int.gcd_comm, e, gcd_add]
/-! ### the law's own -/
def lplus (a b : F) : F := lf (a.1 * b.2 + b.1 * a.2) (a.2 * b.2)
def lminus (a b : F) : F := lf (a.1 * b.2 - b.1 * a.2) (a.2 * b.2)
def ltimes (a b : F) : F := lf (a.1 * b.1) (a.2 * b.2)
theorem lf_pos {n d : Int} (h : 0 < d) : lf n d = nf n d := by
  unfold lf
  exact if_neg (by omega)
theorem lplus_eq {a b : F} (ha : Nrm a) (hb : Nrm b) : lplus a b = plusM a b := by
  unfold lplus
  rw [lf_pos (Int.mul_pos ha.1 hb.1), plus_eq ha hb]
theorem lminus_eq {a b : F} (ha : Nrm a) (hb : Nrm b) : lminus a b = minusM a b := by
  unfold lminus
  rw [lf_pos (Int.mul_pos ha.1 hb.1), minus_eq ha hb]
theorem ltimes_eq {a b : F} (ha : Nrm a) (hb : Nrm b) : ltimes a b = timesM a b := by
  unfold ltimes
  rw [lf_pos (Int.mul_pos ha.1 hb.1), times_eq ha hb]
/-! ### order, quotients -/
def less (a b : F) : Bool := decide (a.1 * b.2 < b.1 * a.2)
def cmpM (a b : F) : Int := if a.1 * b.2 < b.1 * a.2 then -1 else if b.1 * a.2 < a.1 * b.2 then 1 else 0
theorem le_trans {a b c : F} (ha : 0 < a.2) (hb : 0 < b.2) (hc : 0 < c.2) (h1 : a.1 * b.2 ≤ b.1 * a.2) (h2 : b.1 * c.2 ≤ c.1 * b.2) : a.1 * c.2 ≤ c.1 * a.2 := by
  have z1 : a.1 * b.2 * c.2 ≤ b.1 * a.2 * c.2 := Int.mul_le_mul_of_nonneg_right h1 (by omega)
  have z2 : b.1 * c.2 * a.2 ≤ c.1 * b.2 * a.2 := Int.mul_le_mul_of_nonneg_right h2 (by omega)
  have z3 : (a.1 * c.2) * b.2 ≤ (c.1 * a.2) * b.2 := by grind
  exact Int.le_of_mul_le_mul_right z3 hb
theorem less_tr (a b c : F) (ha : 0 < a.2) (hb : 0 < b.2) (hc : 0 < c.2) (h1 : less b a = false) (h2 : less c b = false) : less c a = false := by
  unfold less at *
  have h1' := of_decide_eq_false h1
  have h2' := of_decide_eq_false h2
  refine decide_eq_false fun z => ?_
  have := le_trans ha hb hc (by omega) (by omega)
  omega
theorem less_as (a b : F) (h : less a b = true) : less b a = false := by
  unfold less at *
  have h := of_decide_eq_true h
  exact decide_eq_false (by omega)
/-- the best of a row, by «is i before b» -/
def bestL (f : F → F → Bool) : F → List F → F := List.foldl fun b i => if f i b then i else b
theorem bestL_snoc (f : F → F → Bool) (x : F) (xs : List F) (i : F) : bestL f x (xs ++ [i]) = if f i (bestL f x xs) then i else bestL f x xs := by
  unfold bestL
  rw [List.foldl_append]
  rfl
theorem bestL_mem (f : F → F → Bool) : ∀ (xs : List F) (x : F), bestL f x xs = x ∨ bestL f x xs ∈ xs
  | [], x => .inl rfl
  | i :: xs, x => by
    have e : bestL f x (i :: xs) = bestL f (if f i x then i else x) xs := rfl
    rw [e]
    rcases bestL_mem f xs (if f i x then i else x) with h | h
    · rw [h]
      by_cases c : f i x = true
      · rw [if_pos c]
        exact .inr List.mem_cons_self
      · rw [if_neg c]
        exact .inl rfl
    · exact .inr (List.mem_cons_of_mem _ h)
theorem bestL_min {f : F → F → Bool} (tr : ∀ a b c : F, 0 < a.2 → 0 < b.2 → 0 < c.2 → f b a = false → f c b = false → f c a = false) (as : ∀ a b, f a b = true → f b a = false) :
    ∀ (xs : List F) (x : F), 0 < x.2 → (∀ y ∈ xs, 0 < y.2) → (∀ y ∈ xs, f y (bestL f x xs) = false) ∧ f x (bestL f x xs) = false
  | [], x, _, _ => ⟨fun _ h => by simp at h, by
      show f x x = false
      cases e : f x x with
      | false => rfl
      | true => exact (e.symm.trans (as x x e)).symm ▸ rfl⟩
  | i :: xs, x, hx, hs => by
    have hi := hs i List.mem_cons_self
    have hr : ∀ y ∈ xs, 0 < y.2 := fun y hy => hs y (List.mem_cons_of_mem _ hy)
    show (∀ y ∈ i :: xs, f y (bestL f (if f i x then i else x) xs) = false) ∧ f x (bestL f (if f i x then i else x) xs) = false
    have pos : ∀ z : F, 0 < z.2 → 0 < (bestL f z xs).2 := fun z hz => by
      rcases bestL_mem f xs z with e | e
      · rw [e]; exact hz
      · exact hr _ e
    by_cases c : f i x = true
    · rw [if_pos c]
      obtain ⟨h1, h2⟩ := bestL_min tr as xs i hi hr
      refine ⟨fun y hy => ?_, tr _ _ _ (pos i hi) hi hx h2 (as _ _ c)⟩
      rcases List.mem_cons.mp hy with rfl | hy
      · exact h2
      · exact h1 y hy
    · rw [if_neg c]
      have c := Bool.eq_false_iff.mpr c
      obtain ⟨h1, h2⟩ := bestL_min tr as xs x hx hr
      refine ⟨fun y hy => ?_, h2⟩
      rcases List.mem_cons.mp hy with rfl | hy
      · exact tr _ _ _ (pos x hx) hx hi h2 c
      · exact h1 y hy
/-! ### quotients -/
def invM (b : F) : F := if b.1 < 0 then (-b.2, -b.1) else (b.2, b.1)
def overM (a b : F) : F := timesM a (invM b)
theorem inv_nrm {b : F} (hb : Nrm b) (h : b.1 ≠ 0) : Nrm (invM b) := by
  unfold invM
  split
  · refine ⟨by show 0 < -b.1; omega, ?_⟩
    show Int.gcd (-b.2) (-b.1) = 1
    rw [Int.neg_gcd, Int.gcd_neg, Int.gcd_comm]
    exact hb.2
  · refine ⟨by show 0 < b.1; omega, ?_⟩
    show Int.gcd b.2 b.1 = 1
    rw [Int.gcd_comm]
    exact hb.2
theorem inv_mul (b : F) : (invM b).1 * b.1 = (invM b).2 * b.2 := by
  unfold invM
  split
  · show -b.2 * b.1 = -b.1 * b.2
    grind
  · show b.2 * b.1 = b.1 * b.2
    grind
theorem over_nrm {a b : F} (ha : Nrm a) (hb : Nrm b) (h : b.1 ≠ 0) : Nrm (overM a b) := times_nrm ha (inv_nrm hb h)
theorem times_cross {a b : F} (ha : Nrm a) (hb : Nrm b) : (timesM a b).1 * (a.2 * b.2) = (a.1 * b.1) * (timesM a b).2 := by
  rw [times_eq ha hb]
  exact nf_mul1 (Int.mul_pos ha.1 hb.1)
theorem plus_cross {a b : F} (ha : Nrm a) (hb : Nrm b) : (plusM a b).1 * (a.2 * b.2) = (a.1 * b.2 + b.1 * a.2) * (plusM a b).2 := by
  rw [plus_eq ha hb]
  exact nf_mul1 (Int.mul_pos ha.1 hb.1)
theorem minus_cross {a b : F} (ha : Nrm a) (hb : Nrm b) : (minusM a b).1 * (a.2 * b.2) = (a.1 * b.2 - b.1 * a.2) * (minusM a b).2 := by
  rw [minus_eq ha hb]
  exact nf_mul1 (Int.mul_pos ha.1 hb.1)
theorem over_cross {a b : F} (ha : Nrm a) (hb : Nrm b) (h : b.1 ≠ 0) : (overM a b).1 * (a.2 * b.1) = (a.1 * b.2) * (overM a b).2 := by
  have z := times_cross ha (inv_nrm hb h)
  unfold overM
  unfold invM at *
  split at z
  · rename_i c
    rw [if_pos c]
    simp only at z
    grind
  · rename_i c
    rw [if_neg c]
    exact z
theorem lf_cross {n d : Int} (h : d ≠ 0) : (lf n d).1 * d = n * (lf n d).2 := by
  unfold lf
  split
  · rename_i c
    have z := nf_mul1 (n := 0 - n) (show 0 < 0 - d by omega)
    grind
  · exact nf_mul1 (by omega)
/-- the program's own fraction -/
theorem fdivZ {n g : Int} (hg : 0 < g) (h : g ∣ n) : n.fdiv (-g) = (0 - n) / g := by
  rw [Int.fdiv_eq_ediv_of_dvd ((Int.neg_dvd).mpr h), Int.ediv_neg, Int.zero_sub, Int.neg_ediv_of_dvd h]
end FR

namespace PL
open PySem PySem.Spec PyProof.Rows L2 FR

section
variable {K : PySem.W.Frag} {G : Hp}
theorem dpa_ints_inv : ∀ (ns : List Int) (xs : List V), DpAll K G xs (ns.map PyData.int) → xs = ns.map V.int
  | [], _, r => by
    cases r
    rfl
  | n :: ns, _, r => by
    cases r with
    | cons r1 r2 =>
      cases r1
      rw [dpa_ints_inv ns _ r2, List.map_cons]
theorem dpa_at {vs : List V} {ds : List PyData} {i : Int} {x : PyData} (r : DpAll K G vs ds) (h : atI ds i = some x) : ∃ v, atI vs i = some v ∧ Dp K G v x := by
  unfold atI at h ⊢
  rw [dpa_len r]
  cases e : ixN ds.length i with
  | none => rw [e] at h; simp at h
  | some j =>
    rw [e] at h
    exact dpa_get r h
end
section
variable {K : PySem.W.Frag} {ρ ρ1 : Rho} {I J L N : Asn} {ta tb tc te : TE} {d e : Dat} {t u : TT} {b c : Bool} {p : Addr} {C C' : DS}
theorem e_ixT' {ds : List PyData} {i : Int} {x : PyData} (ha : E K ta ρ I (.t ds) J) (hb : E K tb ρ J (.i i) L) (h : atI ds i = some x) : E K (tOp (rIxT K) ta tb) ρ I (.d x) L :=
  e_op ha hb fun G H a b gh lo dx dy Q q => by
    cases dx with
    | tup s r =>
      obtain rfl := dv_int dy
      obtain ⟨v, h1, h2⟩ := dpa_at r h
      exact ⟨_, _, _, v, rfl, rfl, same_t gh s, h1, q v G H (Same.refl _) gh lo h2⟩
theorem e_ixL' {ds : List PyData} {i : Int} {x : PyData} (ha : E K ta ρ I (.d (.list ds)) J) (hb : E K tb ρ J (.i i) L) (h : atI ds i = some x) : E K (tOp (rIxL K) ta tb) ρ I (.d x) L :=
  e_op ha hb fun G H a b gh lo dx dy Q q => by
    cases dx with
    | lst s r =>
      obtain rfl := dv_int dy
      obtain ⟨v, h1, h2⟩ := dpa_at r h
      exact ⟨_, _, _, v, rfl, rfl, gh.seq s, h1, q v G H (Same.refl _) gh lo h2⟩
/-! ### fractions as data -/
abbrev fr (a : F) : PyData := .tuple [.int a.1, .int a.2]
theorem e_f1 {a : F} (ha : E K ta ρ I (.d (fr a)) J) (hb : E K tb ρ J (.i 0) L) : E K (tOp (rIxT K) ta tb) ρ I (.i a.1) L := e_ixT' ha hb rfl
theorem e_f2 {a : F} (ha : E K ta ρ I (.d (fr a)) J) (hb : E K tb ρ J (.i 1) L) : E K (tOp (rIxT K) ta tb) ρ I (.i a.2) L := e_ixT' ha hb rfl
theorem e_frac {tr : TA} {x y : Int} {a : F} (hr : A K tr ρ I [.i x, .i y] J) (h : a = (x, y)) : E K (tTup tr) ρ I (.d (fr a)) J := by
  subst h
  exact e_tup hr (.cons (.cons .nil)) (show 2 ≤ 100000 by decide)
/-- a fraction in lowest terms below 2 ^ n -/
structure Ok (n : Nat) (a : F) : Prop where
  nrm : Nrm a
  sz : Sz n a
theorem Ok.mono {m n : Nat} {a : F} (h : Ok m a) (hm : m ≤ n) : Ok n a := ⟨h.nrm, h.sz.mono hm⟩
theorem ok_plus {m n : Nat} {a b : F} (h : Ok m a) (k : Ok n b) : Ok (m + n + 1) (plusM a b) := ⟨plus_nrm h.nrm k.nrm, sz_plus h.nrm k.nrm h.sz k.sz⟩
theorem ok_minus {m n : Nat} {a b : F} (h : Ok m a) (k : Ok n b) : Ok (m + n + 1) (minusM a b) := ⟨minus_nrm h.nrm k.nrm, sz_minus h.nrm k.nrm h.sz k.sz⟩
theorem ok_times {m n : Nat} {a b : F} (h : Ok m a) (k : Ok n b) : Ok (m + n) (timesM a b) := ⟨times_nrm h.nrm k.nrm, sz_times h.nrm k.nrm h.sz k.sz⟩
theorem ok_neg {n : Nat} {b : F} (k : Ok n b) : Ok n (-b.1, b.2) := ⟨neg_nrm k.nrm, sz_neg k.sz.1, k.sz.2⟩
theorem ok_lf {n : Nat} {x y : Int} (hy : y ≠ 0) (hx : x.natAbs < 2 ^ n) (hz : y.natAbs < 2 ^ n) : Ok n (lf x y) := by
  refine ⟨lf_nrm hy, ?_⟩
  unfold lf
  split
  · exact sz_nf (by rw [Int.zero_sub, Int.natAbs_neg]; exact hx) (by rw [Int.zero_sub, Int.natAbs_neg]; exact hz)
  · exact sz_nf hx hz
theorem divW {i j : Int} {n : Nat} (h : 0 < j) (hb : j.natAbs < 2 ^ n) (hn : n ≤ 9000) : CDivW i j := wide_div (b := 9000) h (sz_le hb hn) (by decide) (by decide)
theorem mulW {i j : Int} {m n : Nat} (ha : i.natAbs < 2 ^ m) (hb : j.natAbs < 2 ^ n) (h : m + n ≤ 900000) : CMulW i j := wide_mul (a := m + 1) (b := n + 1) (sz_le ha (by omega)) (sz_le hb (by omega)) (by omega) (by omega) (by omega)
theorem gcdN {i j : Int} : ((Nat.gcd i.natAbs j.natAbs : Nat) : Int) = (Int.gcd i j : Int) := rfl
/-! ### what the common defs promise -/
def RPlus (f : F → F → F) (ds : List Dat) (d : Dat) : Prop := ∃ a b : F, ds = [.d (fr a), .d (fr b)] ∧ Ok 4000 a ∧ Ok 4000 b ∧ d = .d (fr (f a b))
theorem RPlus.mk {f : F → F → F} {a b : F} {m n : Nat} (ha : Ok m a) (hb : Ok n b) (hm : m ≤ 4000 := by omega) (hn : n ≤ 4000 := by omega) : RPlus f [.d (fr a), .d (fr b)] (.d (fr (f a b))) := ⟨a, b, rfl, ha.mono hm, hb.mono hn, rfl⟩
theorem RPlus.len {f : F → F → F} {ds : List Dat} {d : Dat} (h : RPlus f ds d) : ds.length = 2 := by
  obtain ⟨a, b, rfl, _⟩ := h
  rfl
/-- of two vectors -/
def vc (a b : F) : PyData := .tuple [fr a, fr b]
def RGcd (ds : List Dat) (d : Dat) : Prop := ∃ x y : Int, ds = [.i x, .i y] ∧ 0 ≤ x ∧ 0 ≤ y ∧ d = .i (Int.gcd x y : Int)
def RF (ds : List Dat) (d : Dat) : Prop := ∃ x y : Int, ds = [.i x, .i y] ∧ y ≠ 0 ∧ x.natAbs < 2 ^ 8500 ∧ y.natAbs < 2 ^ 8500 ∧ d = .d (fr (lf x y))
theorem RF.mk {x y : Int} {m n : Nat} (h0 : y ≠ 0) (hx : x.natAbs < 2 ^ m) (hy : y.natAbs < 2 ^ n) (hm : m ≤ 8500 := by omega) (hn : n ≤ 8500 := by omega) : RF [.i x, .i y] (.d (fr (lf x y))) := ⟨x, y, rfl, h0, sz_le hx hm, sz_le hy hn, rfl⟩
def RTake (ds : List Dat) (C : DS) (d : Dat) (C' : DS) : Prop := ∃ m : Int, ds = [.i m] ∧ DOk C ∧ 0 < m ∧ m.natAbs < 2 ^ 8500 ∧ d = .i (take C m).1 ∧ C' = (take C m).2
/-- draws from -m to m -/
def RSigned (ds : List Dat) (C : DS) (d : Dat) (C' : DS) : Prop := ∃ m : Int, ds = [.i m] ∧ DOk C ∧ 0 ≤ m ∧ m.natAbs < 2 ^ 8000 ∧ d = .i ((take C (2 * m + 1)).1 - m) ∧ C' = (take C (2 * m + 1)).2
def partM (C : DS) (m : Int) : F × DS :=
  let p := take C (2 * (m * 2) + 1)
  let q := take p.2 3
  (lf (p.1 - m * 2) (1 + q.1), q.2)
def RPart (ds : List Dat) (C : DS) (d : Dat) (C' : DS) : Prop := ∃ m : Int, ds = [.i m] ∧ DOk C ∧ 0 ≤ m ∧ m.natAbs < 2 ^ 7000 ∧ d = .d (fr (partM C m).1) ∧ C' = (partM C m).2
theorem part_ok {C : DS} {m : Int} {n : Nat} (h : DOk C) (hm : 0 ≤ m) (hn : m.natAbs < 2 ^ n) : DOk (partM C m).2 ∧ Ok (n + 2) (partM C m).1 := by
  obtain ⟨h1, h2, h3⟩ := take_ok (C := C) (m := 2 * (m * 2) + 1) h (by omega)
  obtain ⟨h4, h5, h6⟩ := take_ok (C := (take C (2 * (m * 2) + 1)).2) (m := 3) h1 (by omega)
  refine ⟨h4, ok_lf ?_ ?_ ?_⟩
  · omega
  · have : (2 : Nat) ^ (n + 2) = 4 * 2 ^ n := by rw [Nat.pow_add]; omega
    omega
  · have : (2 : Nat) ^ (n + 2) = 4 * 2 ^ n := by rw [Nat.pow_add]; omega
    have := Nat.one_le_two_pow (n := n)
    omega
def vecM (C : DS) (m : Int) : (F × F) × DS :=
  let p := partM C m
  let q := partM p.2 m
  ((p.1, q.1), q.2)
theorem vec_ok {C : DS} {m : Int} {n : Nat} (h : DOk C) (hm : 0 ≤ m) (hn : m.natAbs < 2 ^ n) : DOk (vecM C m).2 ∧ Ok (n + 2) (vecM C m).1.1 ∧ Ok (n + 2) (vecM C m).1.2 :=
  ⟨(part_ok (part_ok h hm hn).1 hm hn).1, (part_ok h hm hn).2, (part_ok (part_ok h hm hn).1 hm hn).2⟩
def RVec (ds : List Dat) (C : DS) (d : Dat) (C' : DS) : Prop := ∃ m : Int, ds = [.i m] ∧ DOk C ∧ 0 ≤ m ∧ m.natAbs < 2 ^ 7000 ∧ d = .d (.tuple [fr (vecM C m).1.1, fr (vecM C m).1.2]) ∧ C' = (vecM C m).2
/-- the script's list at the law's beginning -/
def spBegin (K : PySem.W.Frag) : Sp := fun vs H Q _ => ∃ (a : Addr) (ns : List Int) (G : Hp), vs = [.ref a] ∧ Same G H ∧ SqL K G a (ns.map V.int) ∧ ∀ G2 H2 p C, Stp NoA G H G2 H2 → DOk C → G2 p = none → H p = none → (dA K p C).ok G2 H2 → Q (.ref p) H2
theorem s_begin {ts : TS} {X : XK} {tr : TA} {ns : List Int} {i : Nat} {k : Out} (hr : A K tr ρ .tt [.d (.list (ns.map PyData.int))] .tt) (h : ∀ p C, DOk C → S K ts (ρ.set i (some (.r p))) (dJ K p C .tt) k) : S K (tSeq (tAsg (tCall (spBegin K) [] X tr) (gName i)) ts) ρ .tt k := fun G H σ D gh en io f => hr G H σ gh en io _ fun vs G1 H1 g1 gh1 j1 dvs => by
  rw [List.append_nil]
  obtain ⟨v, rfl, h1⟩ := dva1 dvs
  cases h1 with
  | lst s r =>
    rename_i a xs
    obtain rfl := dpa_ints_inv ns xs r
    refine ⟨a, ns, G1, rfl, gh1, s, fun G2 H2 p C st ok gp hp k => ?_⟩
    exact h p C ok G2 H2 _ D st.gh (env_set (d := .r p) rfl (env_mono (g1.trans st.gg) en)) ⟨k, trivial⟩ (f.mono (g1.trans st.gg))
theorem s_beginT {ts : TS} {X : XK} {tr : TA} {ns : List Int} {i : Nat} {k : Out} (hr : A K tr ρ I [.d (.list (ns.map PyData.int))] I) (h : ∀ p C, DOk C → ¬ I.foot p → S K ts (ρ.set i (some (.r p))) (dJ K p C I) k) : S K (tSeq (tAsg (tCall (spBegin K) [] X tr) (gName i)) ts) ρ I k := fun G H σ D gh en io f => hr G H σ gh en io _ fun vs G1 H1 g1 gh1 j1 dvs => by
  rw [List.append_nil]
  obtain ⟨v, rfl, h1⟩ := dva1 dvs
  cases h1 with
  | lst s r =>
    rename_i a xs
    obtain rfl := dpa_ints_inv ns xs r
    refine ⟨a, ns, G1, rfl, gh1, s, fun G2 H2 p C st ok gp hp k => ?_⟩
    refine h p C ok (fun z => ?_) G2 H2 _ D st.gh (env_set (d := .r p) rfl (env_mono (g1.trans st.gg) en)) ⟨k, Asn.pure_st st j1⟩ (f.mono (g1.trans st.gg))
    obtain ⟨o, ho⟩ := I.own G1 H1 p j1 z
    rw [ho] at hp
    cases hp
theorem s_rtT {ts : TS} (h : S K ts ρ I (.rt d J)) : S K ts ρ I (.rt d .tt) := fun G H σ D gh en io f => h G H σ D gh en io fun v G2 H2 g2 gh2 _ dv => f v G2 H2 g2 gh2 trivial dv
end
theorem e_gcdI {i j : Int} {K : PySem.W.Frag} {ρ : Rho} {I J : Asn} {tr : TA} (hr : A K tr ρ I [.i i, .i j] J) : E K (tCB rGcd tr) ρ I (.i (Int.gcd i j : Nat)) J := e_gcd hr
theorem gcd_abs {x y : Int} : Int.gcd (x.natAbs : Int) y = Int.gcd x y := by simp [Int.gcd]
theorem cxK {CX : CXT} {P : Program} {w : World} {K : PySem.W.Frag} {mg : Str → Option Value} {base : Heap} {N : List Str} {q : Str} {sc : Scope} {f : Addr} {cd : Value} {A : Around} {o : List Env} {s : Shared} {H : Hp} {E : XK} :
    (cxOf CX P w K mg base N q sc f cd A o s H E).K = K := rfl
section
variable {K : PySem.W.Frag} {ρ ρ1 : Rho} {I : Asn} {ta tb tc te : TE} {d e : Dat} {t u : TT} {b c : Bool} {ts us : TS} {k : Out}
/-! ### the same where nothing changes -/
theorem p_cons {tr : TA} {ds : List Dat} (ha : E K ta ρ I d I) (hr : A K tr ρ I ds I) : A K (tCons ta tr) ρ I (d :: ds) I := a_cons ha hr
theorem p_f1 {a : F} (ha : E K ta ρ I (.d (fr a)) I) : E K (tOp (rIxT K) ta (tC (.int 0))) ρ I (.i a.1) I := e_f1 ha e_int
theorem p_f2 {a : F} (ha : E K ta ρ I (.d (fr a)) I) : E K (tOp (rIxT K) ta (tC (.int 1))) ρ I (.i a.2) I := e_f2 ha e_int
theorem p_add {i j : Int} (ha : E K ta ρ I (.i i) I) (hb : E K tb ρ I (.i j) I) : E K (tOp (rI0 fun i j => .int (i + j)) ta tb) ρ I (.i (i + j)) I := e_add ha hb
theorem p_sub {i j : Int} (ha : E K ta ρ I (.i i) I) (hb : E K tb ρ I (.i j) I) : E K (tOp (rI0 fun i j => .int (i - j)) ta tb) ρ I (.i (i - j)) I := e_sub ha hb
theorem p_mul {i j : Int} (ha : E K ta ρ I (.i i) I) (hb : E K tb ρ I (.i j) I) (hc : CMulW i j) : E K (tOp (rI CMulW fun i j => .int (i * j)) ta tb) ρ I (.i (i * j)) I := e_mul ha hb hc
theorem p_div {i j : Int} (ha : E K ta ρ I (.i i) I) (hb : E K tb ρ I (.i j) I) (hc : CDivW i j) : E K (tOp (rI CDivW fun i j => .int (i / j)) ta tb) ρ I (.i (i / j)) I := e_div ha hb hc
theorem p_mod {i j : Int} (ha : E K ta ρ I (.i i) I) (hb : E K tb ρ I (.i j) I) (hc : 0 < j) : E K (tOp (rI (fun _ j => 0 < j) fun i j => .int (i % j)) ta tb) ρ I (.i (i % j)) I := e_mod ha hb hc
theorem p_pow {i j : Int} (ha : E K ta ρ I (.i i) I) (hb : E K tb ρ I (.i j) I) (hc : CPow i j) : E K (tOp (rI CPow fun i j => .int (i ^ j.toNat)) ta tb) ρ I (.i (i ^ j.toNat)) I := e_pow ha hb hc
theorem p_lt {i j : Int} (ha : E K ta ρ I (.i i) I) (hb : E K tb ρ I (.i j) I) : E K (tOp (rI0 fun i j => .bl (decide (i < j))) ta tb) ρ I (.b (decide (i < j))) I := e_lt ha hb
theorem p_le {i j : Int} (ha : E K ta ρ I (.i i) I) (hb : E K tb ρ I (.i j) I) : E K (tOp (rI0 fun i j => .bl (decide (i ≤ j))) ta tb) ρ I (.b (decide (i ≤ j))) I := e_le ha hb
theorem p_gt {i j : Int} (ha : E K ta ρ I (.i i) I) (hb : E K tb ρ I (.i j) I) : E K (tOp (rI0 fun i j => .bl (decide (j < i))) ta tb) ρ I (.b (decide (j < i))) I := e_gt ha hb
theorem p_ge {i j : Int} (ha : E K ta ρ I (.i i) I) (hb : E K tb ρ I (.i j) I) : E K (tOp (rI0 fun i j => .bl (decide (j ≤ i))) ta tb) ρ I (.b (decide (j ≤ i))) I := e_ge ha hb
theorem p_eqI {i j : Int} (ha : E K ta ρ I (.i i) I) (hb : E K tb ρ I (.i j) I) : E K (tOp rEq ta tb) ρ I (.b (decide (i = j))) I := e_eqI ha hb
theorem p_neI {i j : Int} (ha : E K ta ρ I (.i i) I) (hb : E K tb ρ I (.i j) I) : E K (tOp rNe ta tb) ρ I (.b (!decide (i = j))) I := e_neI ha hb
theorem p_neg {i : Int} (ha : E K ta ρ I (.i i) I) : E K (tUn (rU fun i => .int (-i)) ta) ρ I (.i (-i)) I := e_neg ha
theorem p_gcd {i j : Int} {tr : TA} (hr : A K tr ρ I [.i i, .i j] I) : E K (tCB rGcd tr) ρ I (.i (Int.gcd i j : Nat)) I := e_gcd hr
theorem p_int1 {i : Int} {tr : TA} (hr : A K tr ρ I [.i i] I) : E K (tCB (fun xs H Q => (∃ i, xs = [.int i] ∧ Q (.int i) H) ∨ ∃ k, xs = [.bl k] ∧ Q (.int (if k then 1 else 0)) H) tr) ρ I (.i i) I := e_int1 hr
theorem p_abs {i : Int} {tr : TA} (hr : A K tr ρ I [.i i] I) : E K (tCB (fun xs H Q => ∃ i, xs = [.int i] ∧ Q (.int (if i < 0 then -i else i)) H) tr) ρ I (.i (i.natAbs : Nat)) I := e_abs hr
theorem p_len {ds : List PyData} {tr : TA} (hr : A K tr ρ I [.d (.list ds)] I) : E K (tCB (fun xs H Q => ∃ p ys, xs = [.ref p] ∧ (SqL K H p ys ∨ SqT K H p ys) ∧ Q (.int ys.length) H) tr) ρ I (.i (ds.length : Nat)) I := e_len hr
theorem p_lenT {ds : List PyData} {tr : TA} (hr : A K tr ρ I [.t ds] I) : E K (tCB (fun xs H Q => ∃ p ys, xs = [.ref p] ∧ (SqL K H p ys ∨ SqT K H p ys) ∧ Q (.int ys.length) H) tr) ρ I (.i (ds.length : Nat)) I := e_lenT hr
theorem p_ixT {ds : List PyData} {i : Int} {x : PyData} (ha : E K ta ρ I (.t ds) I) (hb : E K tb ρ I (.i i) I) (h : atI ds i = some x) : E K (tOp (rIxT K) ta tb) ρ I (.d x) I := e_ixT' ha hb h
theorem p_i0 {ds : List PyData} {x : PyData} (ha : E K ta ρ I (.t (x :: ds)) I) : E K (tOp (rIxT K) ta (tC (.int 0))) ρ I (.d x) I := e_ixT (j := 0) ha e_int rfl
theorem p_i1 {ds : List PyData} {x y : PyData} (ha : E K ta ρ I (.t (x :: y :: ds)) I) : E K (tOp (rIxT K) ta (tC (.int 1))) ρ I (.d y) I := e_ixT (j := 1) ha e_int rfl
theorem p_i2 {ds : List PyData} {x y z : PyData} (ha : E K ta ρ I (.t (x :: y :: z :: ds)) I) : E K (tOp (rIxT K) ta (tC (.int 2))) ρ I (.d z) I := e_ixT (j := 2) ha e_int rfl
theorem p_ixL {ds : List PyData} {i : Int} {x : PyData} (ha : E K ta ρ I (.d (.list ds)) I) (hb : E K tb ρ I (.i i) I) (h : atI ds i = some x) : E K (tOp (rIxL K) ta tb) ρ I (.d x) I := e_ixL' ha hb h
theorem p_call {T : List Addr} {R : List Dat → Dat → Prop} {X : XK} {tr : TA} {ds : List Dat} [HasT T I] (hr : A K tr ρ I ds I) (h : R ds d) : E K (tCall (spT K T R) [] X tr) ρ I d I := e_call hr h
theorem p_frac {tr : TA} {x y : Int} {a : F} (hr : A K tr ρ I [.i x, .i y] I) (h : a = (x, y)) : E K (tTup tr) ρ I (.d (fr a)) I := e_frac hr h
theorem p_tup {tr : TA} {ds : List Dat} {xs : List PyData} (hr : A K tr ρ I ds I) (hd : Ds ds xs) (hl : xs.length ≤ 100000) : E K (tTup tr) ρ I (.t xs) I := e_tup hr hd hl
theorem p_tup2 {tr : TA} {x y : PyData} (hr : A K tr ρ I [.d x, .d y] I) : E K (tTup tr) ρ I (.t [x, y]) I := e_tup hr (.cons (.cons .nil)) (show 2 ≤ 100000 by decide)
theorem p_asg {i : Nat} (h : E K te ρ I d I) : S K (tAsg te (gName i)) ρ I (.nx (ρ.set i (some d)) I) := s_asg h
theorem q_asg {i : Nat} (h : E K te ρ I d I) (h2 : S K us (ρ.set i (some d)) I k) : S K (tSeq (tAsg te (gName i)) us) ρ I k := s_seq (s_asg h) h2
theorem p_ret (h : E K te ρ I d I) : S K (tRet te) ρ I (.rt d I) := s_ret h
theorem p_par {i j : Nat} {tr : TA} (h : A K tr ρ I [d, e] I) : S K (tPar i j tr) ρ I (.nx ((ρ.set i (some d)).set j (some e)) I) := s_par h
theorem p_test (h : E K te ρ I (.b b) I) : T K (tTest te) ρ I b I := t_test h
theorem p_eqD {x y : PyData} (ha : E K ta ρ I (.d x) I) (hb : E K tb ρ I (.d y) I) (hx : SeqAt.shaped x = true) (hy : SeqAt.shaped y = true) : E K (tOp (rEqD K) ta tb) ρ I (.b (PyData.eqv x y)) I := e_eqD ha hb hx hy
theorem p_neD {x y : PyData} (ha : E K ta ρ I (.d x) I) (hb : E K tb ρ I (.d y) I) (hx : SeqAt.shaped x = true) (hy : SeqAt.shaped y = true) : E K (tOp (rNeD K) ta tb) ρ I (.b (!PyData.eqv x y)) I := e_neD ha hb hx hy
/-- an if by a test of known outcome; then what follows -/
theorem q_ifT {b : Bool} (h : T K t ρ I b I) (hb : b = true) (h2 : S K ts ρ I k) : S K (tIfS t ts us) ρ I k := s_ifT (hb ▸ h) h2
theorem q_ifF {b : Bool} (h : T K t ρ I b I) (hb : b = false) (h2 : S K us ρ I k) : S K (tIfS t ts us) ρ I k := s_ifF (hb ▸ h) h2
/-- an if without else that is not entered, ahead of the rest -/
theorem q_skip {b : Bool} {tr : TS} (h : T K t ρ I b I) (hb : b = false) (h2 : S K tr ρ I k) : S K (tSeq (tIfS t ts tNext) tr) ρ I k := s_seq (q_ifF h hb s_next) h2
/-- an if that returns, ahead of the rest -/
theorem q_out {b : Bool} {tr : TS} {J : Asn} (h : T K t ρ I b I) (hb : b = true) (h2 : S K ts ρ I (.rt d J)) : S K (tSeq (tIfS t ts us) tr) ρ I (.rt d J) := s_stop (q_ifT h hb h2)
variable {p : Addr} {C : DS} {J : Asn}
/-! ### the drawing list's items and stores -/
theorem d_ix0 (h : E K te ρ (dJ K p C J) (.r p) (dJ K p C J)) : E K (tOp (rIxL K) te (tC (.int 0))) ρ (dJ K p C J) (.d (.list (C.ns.map PyData.int))) (dJ K p C J) := e_dix (j := 0) h e_int rfl
theorem d_ix1 (h : E K te ρ (dJ K p C J) (.r p) (dJ K p C J)) : E K (tOp (rIxL K) te (tC (.int 1))) ρ (dJ K p C J) (.i (C.pos : Nat)) (dJ K p C J) := e_dix (j := 1) h e_int rfl
theorem d_ix2 (h : E K te ρ (dJ K p C J) (.r p) (dJ K p C J)) : E K (tOp (rIxL K) te (tC (.int 2))) ρ (dJ K p C J) (.i C.rest) (dJ K p C J) := e_dix (j := 2) h e_int rfl
theorem d_ix3 (h : E K te ρ (dJ K p C J) (.r p) (dJ K p C J)) : E K (tOp (rIxL K) te (tC (.int 3))) ρ (dJ K p C J) (.i C.seed) (dJ K p C J) := e_dix (j := 3) h e_int rfl
theorem d_set1 {n : Nat} {x : Int} (he : E K te ρ (dJ K p C J) (.i x) (dJ K p C J)) (hx : x = (n : Nat)) (h : E K ta ρ (dJ K p C J) (.r p) (dJ K p C J)) (hf : ¬ J.foot p) : S K (tAsg te (gSub ta (tC (.int 1)) rSetL)) ρ (dJ K p C J) (.nx ρ (dJ K p { C with pos := n } J)) := by
  subst hx
  exact s_dset (j := 1) (C' := { C with pos := n }) he h e_int (by decide) rfl ⟨rfl, rfl⟩ hf
theorem d_set2 {x : Int} (he : E K te ρ (dJ K p C J) (.i x) (dJ K p C J)) (h : E K ta ρ (dJ K p C J) (.r p) (dJ K p C J)) (hf : ¬ J.foot p) : S K (tAsg te (gSub ta (tC (.int 2)) rSetL)) ρ (dJ K p C J) (.nx ρ (dJ K p { C with rest := x } J)) :=
  s_dset (j := 2) (C' := { C with rest := x }) he h e_int (by decide) rfl ⟨rfl, rfl⟩ hf
theorem d_set3 {x : Int} (he : E K te ρ (dJ K p C J) (.i x) (dJ K p C J)) (h : E K ta ρ (dJ K p C J) (.r p) (dJ K p C J)) (hf : ¬ J.foot p) : S K (tAsg te (gSub ta (tC (.int 3)) rSetL)) ρ (dJ K p C J) (.nx ρ (dJ K p { C with seed := x } J)) :=
  s_dset (j := 3) (C' := { C with seed := x }) he h e_int (by decide) rfl ⟨rfl, rfl⟩ hf
theorem p_list {ds : List PyData} {tr : TA} (hr : A K tr ρ I [.d (.list ds)] I) : E K (tCB (fun xs H Q => ∃ p ys, xs = [.ref p] ∧ (SqL K H p ys ∨ SqT K H p ys) ∧ ∀ l, H l = none → Q (.ref l) (upd H l (.lst ys))) tr) ρ I (.d (.list ds)) I :=
  e_cb hr fun G H vs gh jo h Q q => by
    obtain ⟨v, rfl, h1⟩ := dva1 h
    cases h1 with
    | lst s r =>
      rename_i a xs
      refine ⟨_, _, rfl, .inl (gh.seq s), fun l hl => ?_⟩
      have st := Stp.new (o := .lst xs) gh hl
      exact q _ _ _ st.gg st.gh (Asn.pure_st st jo) (.lst (.inl (.inl upd_same)) (dp_monos st.gg ds _ r))
/-! ### the law's beginning -/
def seedF (s n : Int) : Int := (s * 69621 + n % 2147483629 + 7) % 2147483647
def seedAt (ns : List Int) : Nat → Int
  | 0 => 1
  | i + 1 => seedF (seedAt ns i) (ns.getD i 0)
theorem seed_ok (ns : List Int) (i : Nat) : 0 ≤ seedAt ns i ∧ seedAt ns i < 2147483647 := by
  cases i with
  | zero => exact ⟨(by decide : (0 : Int) ≤ 1), (by decide : (1 : Int) < 2147483647)⟩
  | succ i => exact ⟨Int.emod_nonneg _ (by decide), Int.emod_lt_of_pos _ (by decide)⟩
/-- what _law_begin leaves -/
def begP (K : PySem.W.Frag) (G0 H0 : Hp) (v : V) (G2 H2 : Hp) : Prop := ∃ p C, v = .ref p ∧ DOk C ∧ Stp NoA G0 H0 G2 H2 ∧ G2 p = none ∧ H0 p = none ∧ (dA K p C).ok G2 H2
theorem s_retBeg {G0 H0 : Hp} {tr : TA} {ns : List Int} {sd : Int} (hs : 0 ≤ sd ∧ sd < 2147483647) (hr : A K tr ρ (.since NoA G0 H0) [.d (.list (ns.map PyData.int)), .i 0, .i 0, .i sd] (.since NoA G0 H0)) : S K (tRet (tLst tr)) ρ (.since NoA G0 H0) (.fin (begP K G0 H0)) := fun G H σ D gh en io f => hr G H σ gh en io _ fun vs G1 H1 g1 gh1 j1 dvs => by
  match vs, dvs with
  | [v0, v1, v2, v3], ⟨h0, h1, h2, h3, _⟩ =>
    obtain rfl := dv_int h1
    obtain rfl := dv_int h2
    obtain rfl := dv_int h3
    cases h0 with
    | lst s r =>
      rename_i a xs
      obtain rfl := dpa_ints_inv ns xs r
      refine ⟨sz_of (show 4 ≤ 100000 by decide), fun p hp => ?_⟩
      have st := Stp.newM (o := HO.lst [.ref a, .int 0, .int 0, .int sd]) gh1 hp
      have gp : G1 p = none := gh1.free hp
      have hp0 : H0 p = none := by
        cases e : H0 p with
        | none => rfl
        | some u =>
          have j1' : Stp NoA G0 H0 G1 H1 := j1
          obtain ⟨x, hx⟩ := j1'.ex p u e
          rw [hx] at hp
          cases hp
      have j1' : Stp NoA G0 H0 G1 H1 := j1
      exact f _ G1 _ g1 st.gh ⟨p, ⟨a, ns, 0, 0, sd⟩, rfl, ⟨Int.le_refl _, hs⟩, j1'.trans st, gp, hp0, gp, upd_same, s⟩
theorem body_beg {ts : TS} {N : List Str} {vs : List V} {H : Hp} {Q : VK} {X : XK} (hb : ∀ (ns : List Int) G0 H0, S K ts (some (.d (.list (ns.map PyData.int))) :: List.replicate (N.length - 1) none) (.since NoA G0 H0) (.fin (begP K G0 H0))) (h : spBegin K vs H Q X) :
    ts { nx := fun _ H' => Q .non H', rt := Q } (L2.start N vs) H := by
  obtain ⟨a, ns, G, rfl, gh, s, q⟩ := h
  refine hb ns G H G H _ _ gh ?_ (Stp.refl gh) fun v G2 H2 g2 gh2 ⟨p, C, ev, ok, st, gp, hp, k⟩ => ?_
  · unfold L2.start
    exact env_start (vs := [.ref a]) (ds := [.d (.list (ns.map PyData.int))]) _ ⟨.lst s (dpa_ints ns), trivial⟩
  · subst ev
    exact q G2 H2 p C st ok gp hp k
end
/-! ### the law itself -/
def spLaw (K : PySem.W.Frag) : Sp := fun vs H Q _ => ∃ (a : Addr) (ns : List Int), vs = [.ref a] ∧ SqL K H a (ns.map V.int) ∧ ns.length ≤ 63 ∧ ∀ H', Q (.bl true) H'
theorem len_L {K : PySem.W.Frag} {vs : List V} {H : Hp} {Q : VK} {X : XK} (h : spLaw K vs H Q X) : vs.length = 1 := by
  obtain ⟨_, _, rfl, _⟩ := h
  rfl
theorem body_L {K : PySem.W.Frag} {ts : TS} {N : List Str} {vs : List V} {H : Hp} {Q : VK} {X : XK} (hb : ∀ ns : List Int, ns.length ≤ 63 → S K ts (some (.d (.list (ns.map PyData.int))) :: List.replicate (N.length - 1) none) .tt (.rt (.b true) .tt)) (h : spLaw K vs H Q X) :
    ts { nx := fun _ H' => Q .non H', rt := Q } (L2.start N vs) H := by
  obtain ⟨a, ns, rfl, s, hl, q⟩ := h
  refine hb ns hl H H _ _ (Same.refl _) ?_ trivial fun v G2 H2 g2 gh2 _ dv => ?_
  · unfold L2.start
    exact env_start (vs := [.ref a]) (ds := [.d (.list (ns.map PyData.int))]) _ ⟨.lst s (dpa_ints ns), trivial⟩
  · obtain rfl := dv_bl dv
    exact q H2
def spLawT (K : PySem.W.Frag) (T : List Addr) : Sp := fun vs H Q _ => ∃ (a : Addr) (ns : List Int), vs = [.ref a] ∧ SqL K H a (ns.map V.int) ∧ ns.length ≤ 63 ∧ TabsIn T H ∧ ∀ H', Q (.bl true) H'
theorem len_LT {K : PySem.W.Frag} {T : List Addr} {vs : List V} {H : Hp} {Q : VK} {X : XK} (h : spLawT K T vs H Q X) : vs.length = 1 := by
  obtain ⟨_, _, rfl, _⟩ := h
  rfl
theorem body_LT {K : PySem.W.Frag} {T : List Addr} {ts : TS} {N : List Str} {vs : List V} {H : Hp} {Q : VK} {X : XK} (hb : ∀ ns : List Int, ns.length ≤ 63 → S K ts (some (.d (.list (ns.map PyData.int))) :: List.replicate (N.length - 1) none) (.tab T) (.rt (.b true) .tt)) (h : spLawT K T vs H Q X) :
    ts { nx := fun _ H' => Q .non H', rt := Q } (L2.start N vs) H := by
  obtain ⟨a, ns, rfl, s, hl, tb, q⟩ := h
  refine hb ns hl H H _ _ (Same.refl _) ?_ tb fun v G2 H2 g2 gh2 _ dv => ?_
  · unfold L2.start
    exact env_start (vs := [.ref a]) (ds := [.d (.list (ns.map PyData.int))]) _ ⟨.lst s (dpa_ints ns), trivial⟩
  · obtain rfl := dv_bl dv
    exact q H2
/-- two vectors -/
def RVec2 (f : F → F → F) (ds : List Dat) (d : Dat) : Prop := ∃ a b x y : F, ds = [.t [fr a, fr b], .t [fr x, fr y]] ∧ Ok 4000 a ∧ Ok 4000 b ∧ Ok 4000 x ∧ Ok 4000 y ∧ d = .t [fr (f a x), fr (f b y)]
theorem RVec2.len {f : F → F → F} {ds : List Dat} {d : Dat} (h : RVec2 f ds d) : ds.length = 2 := by
  obtain ⟨_, _, _, _, rfl, _⟩ := h
  rfl
theorem RVec2.mk {f : F → F → F} {a b x y : F} {m n : Nat} (ha : Ok m a) (hb : Ok m b) (hx : Ok n x) (hy : Ok n y) (hm : m ≤ 4000 := by omega) (hn : n ≤ 4000 := by omega) : RVec2 f [.t [fr a, fr b], .t [fr x, fr y]] (.t [fr (f a x), fr (f b y)]) := ⟨a, b, x, y, rfl, ha.mono hm, hb.mono hm, hx.mono hn, hy.mono hn, rfl⟩
theorem shaped_fr (a : F) : SeqAt.shaped (fr a) = true := rfl
theorem shaped_v (a b : F) : SeqAt.shaped (.tuple [fr a, fr b]) = true := rfl
theorem eqv_fr (a : F) : PyData.eqv (fr a) (fr a) = true := by simp [PyData.eqv, PyData.eqvAll]
theorem eqv_v (a b : F) : PyData.eqv (.tuple [fr a, fr b]) (.tuple [fr a, fr b]) = true := by simp [PyData.eqv, PyData.eqvAll]
end PL

local macro_rules | `(tactic| walk_at "norm") => `(tactic| try simp only [PL.cxK, List.map_cons, List.map_nil, List.cons_append, List.nil_append, List.length_cons, List.length_nil, List.replicate_succ, List.replicate_zero, Nat.reduceAdd, Nat.reduceSub, Nat.zero_add, Nat.sub_self])
local macro_rules | `(tactic| walk_at "ev") => `(tactic| repeat' (first | exact PL.e_var rfl | exact PL.e_int | exact PL.e_bl | exact PL.e_str | exact PL.e_non | exact PL.a_nil | refine PL.p_cons ?_ ?_ | refine PL.p_f1 ?_ | refine PL.p_f2 ?_ | refine PL.p_add ?_ ?_ | refine PL.p_sub ?_ ?_ | refine PL.p_mul ?_ ?_ ?_ | refine PL.p_div ?_ ?_ ?_ | refine PL.p_mod ?_ ?_ ?_ | refine PL.p_pow ?_ ?_ ?_ | refine PL.p_lt ?_ ?_ | refine PL.p_le ?_ ?_ | refine PL.p_gt ?_ ?_ | refine PL.p_ge ?_ ?_ | refine PL.p_eqI ?_ ?_ | refine PL.p_neI ?_ ?_ | refine PL.p_neg ?_ | refine PL.p_gcd ?_ | refine PL.p_int1 ?_ | refine PL.p_abs ?_ | refine PL.p_len ?_ | refine PL.p_test ?_ | refine PL.d_ix0 ?_ | refine PL.d_ix1 ?_ | refine PL.d_ix2 ?_ | refine PL.d_ix3 ?_ | refine PL.p_list ?_ | refine' PL.p_i0 _ | refine' PL.p_i1 _ | refine' PL.p_i2 _))
namespace W
open PySem PySem.Spec PyProof.Rows L2 FR PL
def topS (i : Nat) : Stmt := PySem.Challenge.pw_steadybodies_k03_vectors.main.body.getD i (.Pass ⟨0, 0, 0, 0⟩)
abbrev s_plus : Stmt := topS 2
theorem sc_plus : FnScope ["a", "b", "shared", "stretched", "numerator", "divisor"] ["a", "b"] (defScope s_plus) := ⟨rfl, rfl, rfl, by decide +kernel, rfl, by decide +kernel, by decide +kernel⟩
abbrev s_minus : Stmt := topS 3
theorem sc_minus : FnScope ["a", "b"] ["a", "b"] (defScope s_minus) := ⟨rfl, rfl, rfl, by decide +kernel, rfl, by decide +kernel, by decide +kernel⟩
abbrev s_times : Stmt := topS 4
theorem sc_times : FnScope ["a", "b", "first", "second"] ["a", "b"] (defScope s_times) := ⟨rfl, rfl, rfl, by decide +kernel, rfl, by decide +kernel, by decide +kernel⟩
abbrev s_add : Stmt := topS 6
theorem sc_add : FnScope ["a", "b"] ["a", "b"] (defScope s_add) := ⟨rfl, rfl, rfl, by decide +kernel, rfl, by decide +kernel, by decide +kernel⟩
abbrev s_subtract : Stmt := topS 7
theorem sc_subtract : FnScope ["a", "b"] ["a", "b"] (defScope s_subtract) := ⟨rfl, rfl, rfl, by decide +kernel, rfl, by decide +kernel, by decide +kernel⟩
abbrev s_scale : Stmt := topS 8
theorem sc_scale : FnScope ["a", "factor"] ["a", "factor"] (defScope s_scale) := ⟨rfl, rfl, rfl, by decide +kernel, rfl, by decide +kernel, by decide +kernel⟩
abbrev s_dot : Stmt := topS 9
theorem sc_dot : FnScope ["a", "b"] ["a", "b"] (defScope s_dot) := ⟨rfl, rfl, rfl, by decide +kernel, rfl, by decide +kernel, by decide +kernel⟩
abbrev s_law_begin : Stmt := topS 11
theorem sc_law_begin : FnScope ["script", "seed", "cell"] ["script"] (defScope s_law_begin) := ⟨rfl, rfl, rfl, by decide +kernel, rfl, by decide +kernel, by decide +kernel⟩
abbrev s_law_take : Stmt := topS 12
theorem sc_law_take : FnScope ["d", "many", "small", "digit"] ["d", "many"] (defScope s_law_take) := ⟨rfl, rfl, rfl, by decide +kernel, rfl, by decide +kernel, by decide +kernel⟩
abbrev s_law_signed : Stmt := topS 13
theorem sc_law_signed : FnScope ["d", "most"] ["d", "most"] (defScope s_law_signed) := ⟨rfl, rfl, rfl, by decide +kernel, rfl, by decide +kernel, by decide +kernel⟩
abbrev s_law_gcd : Stmt := topS 14
theorem sc_law_gcd : FnScope ["a", "b"] ["a", "b"] (defScope s_law_gcd) := ⟨rfl, rfl, rfl, by decide +kernel, rfl, by decide +kernel, by decide +kernel⟩
abbrev s_law_f : Stmt := topS 15
theorem sc_law_f : FnScope ["a", "b", "c"] ["a", "b"] (defScope s_law_f) := ⟨rfl, rfl, rfl, by decide +kernel, rfl, by decide +kernel, by decide +kernel⟩
abbrev s_law_plus : Stmt := topS 16
theorem sc_law_plus : FnScope ["a", "b"] ["a", "b"] (defScope s_law_plus) := ⟨rfl, rfl, rfl, by decide +kernel, rfl, by decide +kernel, by decide +kernel⟩
abbrev s_law_minus : Stmt := topS 17
theorem sc_law_minus : FnScope ["a", "b"] ["a", "b"] (defScope s_law_minus) := ⟨rfl, rfl, rfl, by decide +kernel, rfl, by decide +kernel, by decide +kernel⟩
abbrev s_law_times : Stmt := topS 18
theorem sc_law_times : FnScope ["a", "b"] ["a", "b"] (defScope s_law_times) := ⟨rfl, rfl, rfl, by decide +kernel, rfl, by decide +kernel, by decide +kernel⟩
abbrev s_law_part : Stmt := topS 19
theorem sc_law_part : FnScope ["d", "most"] ["d", "most"] (defScope s_law_part) := ⟨rfl, rfl, rfl, by decide +kernel, rfl, by decide +kernel, by decide +kernel⟩
abbrev s_law_vector : Stmt := topS 20
theorem sc_law_vector : FnScope ["d", "most"] ["d", "most"] (defScope s_law_vector) := ⟨rfl, rfl, rfl, by decide +kernel, rfl, by decide +kernel, by decide +kernel⟩
abbrev s_law : Stmt := topS 21
theorem sc_law : FnScope ["script", "d", "most", "a", "b", "c"] ["script"] (defScope s_law) := ⟨rfl, rfl, rfl, by decide +kernel, rfl, by decide +kernel, by decide +kernel⟩
/-- what the top has written -/
structure Top (K : PySem.W.Frag) (mg : Str → Option Value) (base : Heap) where
  f_plus : Addr
  d_plus : FuncData
  F_plus : Fun K "plus" "plus" s_plus f_plus d_plus
  g_plus : mg "plus" = some (.ref f_plus)
  b_plus : Binds K d_plus ["a", "b"] []
  f_minus : Addr
  d_minus : FuncData
  F_minus : Fun K "minus" "minus" s_minus f_minus d_minus
  g_minus : mg "minus" = some (.ref f_minus)
  b_minus : Binds K d_minus ["a", "b"] []
  f_times : Addr
  d_times : FuncData
  F_times : Fun K "times" "times" s_times f_times d_times
  g_times : mg "times" = some (.ref f_times)
  b_times : Binds K d_times ["a", "b"] []
  f_add : Addr
  d_add : FuncData
  F_add : Fun K "add" "add" s_add f_add d_add
  g_add : mg "add" = some (.ref f_add)
  b_add : Binds K d_add ["a", "b"] []
  f_subtract : Addr
  d_subtract : FuncData
  F_subtract : Fun K "subtract" "subtract" s_subtract f_subtract d_subtract
  g_subtract : mg "subtract" = some (.ref f_subtract)
  b_subtract : Binds K d_subtract ["a", "b"] []
  f_scale : Addr
  d_scale : FuncData
  F_scale : Fun K "scale" "scale" s_scale f_scale d_scale
  g_scale : mg "scale" = some (.ref f_scale)
  b_scale : Binds K d_scale ["a", "factor"] []
  f_dot : Addr
  d_dot : FuncData
  F_dot : Fun K "dot" "dot" s_dot f_dot d_dot
  g_dot : mg "dot" = some (.ref f_dot)
  b_dot : Binds K d_dot ["a", "b"] []
  f_law_begin : Addr
  d_law_begin : FuncData
  F_law_begin : Fun K "_law_begin" "_law_begin" s_law_begin f_law_begin d_law_begin
  g_law_begin : mg "_law_begin" = some (.ref f_law_begin)
  b_law_begin : Binds K d_law_begin ["script"] []
  f_law_take : Addr
  d_law_take : FuncData
  F_law_take : Fun K "_law_take" "_law_take" s_law_take f_law_take d_law_take
  g_law_take : mg "_law_take" = some (.ref f_law_take)
  b_law_take : Binds K d_law_take ["d", "many"] []
  f_law_signed : Addr
  d_law_signed : FuncData
  F_law_signed : Fun K "_law_signed" "_law_signed" s_law_signed f_law_signed d_law_signed
  g_law_signed : mg "_law_signed" = some (.ref f_law_signed)
  b_law_signed : Binds K d_law_signed ["d", "most"] []
  f_law_gcd : Addr
  d_law_gcd : FuncData
  F_law_gcd : Fun K "_law_gcd" "_law_gcd" s_law_gcd f_law_gcd d_law_gcd
  g_law_gcd : mg "_law_gcd" = some (.ref f_law_gcd)
  b_law_gcd : Binds K d_law_gcd ["a", "b"] []
  f_law_f : Addr
  d_law_f : FuncData
  F_law_f : Fun K "_law_f" "_law_f" s_law_f f_law_f d_law_f
  g_law_f : mg "_law_f" = some (.ref f_law_f)
  b_law_f : Binds K d_law_f ["a", "b"] []
  f_law_plus : Addr
  d_law_plus : FuncData
  F_law_plus : Fun K "_law_plus" "_law_plus" s_law_plus f_law_plus d_law_plus
  g_law_plus : mg "_law_plus" = some (.ref f_law_plus)
  b_law_plus : Binds K d_law_plus ["a", "b"] []
  f_law_minus : Addr
  d_law_minus : FuncData
  F_law_minus : Fun K "_law_minus" "_law_minus" s_law_minus f_law_minus d_law_minus
  g_law_minus : mg "_law_minus" = some (.ref f_law_minus)
  b_law_minus : Binds K d_law_minus ["a", "b"] []
  f_law_times : Addr
  d_law_times : FuncData
  F_law_times : Fun K "_law_times" "_law_times" s_law_times f_law_times d_law_times
  g_law_times : mg "_law_times" = some (.ref f_law_times)
  b_law_times : Binds K d_law_times ["a", "b"] []
  f_law_part : Addr
  d_law_part : FuncData
  F_law_part : Fun K "_law_part" "_law_part" s_law_part f_law_part d_law_part
  g_law_part : mg "_law_part" = some (.ref f_law_part)
  b_law_part : Binds K d_law_part ["d", "most"] []
  f_law_vector : Addr
  d_law_vector : FuncData
  F_law_vector : Fun K "_law_vector" "_law_vector" s_law_vector f_law_vector d_law_vector
  g_law_vector : mg "_law_vector" = some (.ref f_law_vector)
  b_law_vector : Binds K d_law_vector ["d", "most"] []
  f_law : Addr
  d_law : FuncData
  F_law : Fun K "law" "law" s_law f_law d_law
  g_law : mg "law" = some (.ref f_law)
  b_law : Binds K d_law ["script"] []
  n_abs : mg "abs" = none
  n_int : mg "int" = none
  n_len : mg "len" = none
  n_list : mg "list" = none
  n_gcd : mg "gcd" = some (.builtin "math.gcd")
/-- the tables of code objects that are written -/
abbrev Top.tabs {K : PySem.W.Frag} {mg : Str → Option Value} {base : Heap} (Tp : Top K mg base) : List Addr := []

def RScale (ds : List Dat) (d : Dat) : Prop := ∃ a b c : F, ds = [.t [fr a, fr b], .d (fr c)] ∧ Ok 1000 a ∧ Ok 1000 b ∧ Ok 1000 c ∧ d = .t [fr (timesM a c), fr (timesM b c)]
def RDot (ds : List Dat) (d : Dat) : Prop := ∃ a b x y : F, ds = [.t [fr a, fr b], .t [fr x, fr y]] ∧ Ok 1000 a ∧ Ok 1000 b ∧ Ok 1000 x ∧ Ok 1000 y ∧ d = .d (fr (plusM (timesM a x) (timesM b y)))

section
variable {P : Program} {w : World} {K : PySem.W.Frag} {mg : Str → Option Value} {base : Heap}
theorem fok_plus (Tp : Top K mg base) : FnOk P w K mg base CX0 1 Tp.f_plus Tp.d_plus ["a", "b"] (spP K (RPlus plusM)) := by
  refine Tp.F_plus.ok sc_plus (fun vs H Q E h => len_P (fun _ _ z => z.len) h) (fun cdv A outer s H vs Q E hr h => ?_)
  refine ⟨_, (pss_cons (ps_set (i := 2) sc_plus.nd rfl (.inl rfl) (pe_callBfun cr_gcd (by rfl) Tp.n_gcd (pa_cons (pe_ix (r := rIxT K) ix_tup (pv 0) pe_int (fun _ _ => rfl)) (pa_cons (pe_ix (r := rIxT K) ix_tup (pv 1) pe_int (fun _ _ => rfl)) pa_nil))))
      (pss_cons (ps_set (i := 3) sc_plus.nd rfl (.inl rfl) (pe_op op_fdivW (pe_ix (r := rIxT K) ix_tup (pv 0) pe_int (fun _ _ => rfl)) (pv 2)))
      (pss_cons (ps_set (i := 4) sc_plus.nd rfl (.inl rfl) (pe_op op_add (pe_op op_mulW (pe_ix (r := rIxT K) ix_tup (pv 0) pe_int (fun _ _ => rfl)) (pe_op op_fdivW (pe_ix (r := rIxT K) ix_tup (pv 1) pe_int (fun _ _ => rfl)) (pv 2))) (pe_op op_mulW (pe_ix (r := rIxT K) ix_tup (pv 1) pe_int (fun _ _ => rfl)) (pv 3))))
      (pss_cons (ps_set (i := 5) sc_plus.nd rfl (.inl rfl) (pe_callBfun cr_gcd (by rfl) Tp.n_gcd (pa_cons (pv 4) (pa_cons (pv 2) pa_nil))))
      (pss_one (ps_ret (pe_tup (pa_cons (pe_op op_fdivW (pv 4) (pv 5)) (pa_cons (pe_op op_mulW (pv 3) (pe_op op_fdivW (pe_ix (r := rIxT K) ix_tup (pv 1) pe_int (fun _ _ => rfl)) (pv 5))) pa_nil))))))))), body_P ?_ h⟩
  refine fun ds d r I => ?_
  obtain ⟨a, b, rfl, ha, hb, rfl⟩ := r
  walk_at "norm"
  have pa := ha.nrm.1
  have pb := hb.nrm.1
  
  have s0 : Int.gcd a.2 b.2 ≠ 0 := Int.gcd_ne_zero_right (by omega)
  have z1 : ((Int.gcd a.2 b.2 : Nat) : Int).natAbs < 2 ^ 4000 := sz_gcd hb.sz.2 (by omega)
  have z2 := sz_div ha.sz.2 (Int.gcd_dvd_left a.2 b.2)
  have z3 := sz_div hb.sz.2 (Int.gcd_dvd_right a.2 b.2)
  have hg : (0 : Int) < (Int.gcd a.2 b.2 : Nat) := by omega
  refine q_asg (d := .i (Int.gcd a.2 b.2 : Nat)) (by walk_at "ev") ?_
  refine q_asg (d := .i (a.2 / (Int.gcd a.2 b.2 : Nat))) (by walk_at "ev"; exact divW hg z1 (by decide)) ?_
  refine q_asg (d := .i (a.1 * (b.2 / (Int.gcd a.2 b.2 : Nat)) + b.1 * (a.2 / (Int.gcd a.2 b.2 : Nat)))) ?_ ?_
  · walk_at "ev"
    · exact divW hg z1 (by decide)
    · exact mulW ha.sz.1 z3 (by decide)
    · exact mulW hb.sz.1 z2 (by decide)
  · generalize hn : a.1 * (b.2 / (Int.gcd a.2 b.2 : Nat)) + b.1 * (a.2 / (Int.gcd a.2 b.2 : Nat)) = n
    have v0 : Int.gcd n (Int.gcd a.2 b.2 : Nat) ≠ 0 := Int.gcd_ne_zero_right (by omega)
    have zv : ((Int.gcd n (Int.gcd a.2 b.2 : Nat) : Nat) : Int).natAbs < 2 ^ 4000 := sz_gcd z1 (by omega)
    have hv : (0 : Int) < (Int.gcd n (Int.gcd a.2 b.2 : Nat) : Nat) := by omega
    have dv : ((Int.gcd n (Int.gcd a.2 b.2 : Nat) : Nat) : Int) ∣ b.2 := Int.dvd_trans (Int.gcd_dvd_right _ _) (Int.gcd_dvd_right _ _)
    refine q_asg (d := .i (Int.gcd n (Int.gcd a.2 b.2 : Nat) : Nat)) (by walk_at "ev") ?_
    refine p_ret (p_frac (x := n / (Int.gcd n (Int.gcd a.2 b.2 : Nat) : Nat)) (y := (a.2 / (Int.gcd a.2 b.2 : Nat)) * (b.2 / (Int.gcd n (Int.gcd a.2 b.2 : Nat) : Nat))) ?_ ?_)
    · walk_at "ev"
      · exact divW hv zv (by decide)
      · exact divW hv zv (by decide)
      · exact mulW z2 (sz_div hb.sz.2 dv) (by decide)
    · subst hn
      rfl
theorem fok_minus (Tp : Top K mg base) : FnOk P w K mg base CX0 2 Tp.f_minus Tp.d_minus ["a", "b"] (spP K (RPlus minusM)) := by
  have G_plus := fok_plus (P := P) (w := w) (base := base) Tp
  refine Tp.F_minus.ok sc_minus (fun vs H Q E h => len_P (fun _ _ z => z.len) h) (fun cdv A outer s H vs Q E hr h => ?_)
  refine ⟨_, (pss_one (ps_ret (pe_call G_plus (hr.mono (by decide)) (by rfl) Tp.g_plus Tp.F_plus.kp Tp.b_plus .nil pass0 (pa_cons (pv 0) (pa_cons (pe_tup (pa_cons (pe_un un_neg (pe_ix (r := rIxT K) ix_tup (pv 1) pe_int (fun _ _ => rfl))) (pa_cons (pe_ix (r := rIxT K) ix_tup (pv 1) pe_int (fun _ _ => rfl)) pa_nil))) pa_nil))))), body_P ?_ h⟩
  refine fun ds d r I => ?_
  obtain ⟨a, b, rfl, ha, hb, rfl⟩ := r
  walk_at "norm"
  have pa := ha.nrm.1
  have pb := hb.nrm.1
  
  refine p_ret (p_call (p_cons ?_ (p_cons (p_frac (x := -b.1) (y := b.2) ?_ rfl) a_nil)) ⟨a, (-b.1, b.2), rfl, ha, ok_neg hb, rfl⟩)
  · walk_at "ev"
  · walk_at "ev"
theorem fok_times (Tp : Top K mg base) : FnOk P w K mg base CX0 1 Tp.f_times Tp.d_times ["a", "b"] (spP K (RPlus timesM)) := by
  refine Tp.F_times.ok sc_times (fun vs H Q E h => len_P (fun _ _ z => z.len) h) (fun cdv A outer s H vs Q E hr h => ?_)
  refine ⟨_, (pss_cons (ps_set (i := 2) sc_times.nd rfl (.inl rfl) (pe_callBfun cr_gcd (by rfl) Tp.n_gcd (pa_cons (pe_ix (r := rIxT K) ix_tup (pv 0) pe_int (fun _ _ => rfl)) (pa_cons (pe_ix (r := rIxT K) ix_tup (pv 1) pe_int (fun _ _ => rfl)) pa_nil))))
      (pss_cons (ps_set (i := 3) sc_times.nd rfl (.inl rfl) (pe_callBfun cr_gcd (by rfl) Tp.n_gcd (pa_cons (pe_ix (r := rIxT K) ix_tup (pv 1) pe_int (fun _ _ => rfl)) (pa_cons (pe_ix (r := rIxT K) ix_tup (pv 0) pe_int (fun _ _ => rfl)) pa_nil))))
      (pss_one (ps_ret (pe_tup (pa_cons (pe_op op_mulW (pe_op op_fdivW (pe_ix (r := rIxT K) ix_tup (pv 0) pe_int (fun _ _ => rfl)) (pv 2)) (pe_op op_fdivW (pe_ix (r := rIxT K) ix_tup (pv 1) pe_int (fun _ _ => rfl)) (pv 3))) (pa_cons (pe_op op_mulW (pe_op op_fdivW (pe_ix (r := rIxT K) ix_tup (pv 0) pe_int (fun _ _ => rfl)) (pv 3)) (pe_op op_fdivW (pe_ix (r := rIxT K) ix_tup (pv 1) pe_int (fun _ _ => rfl)) (pv 2))) pa_nil))))))), body_P ?_ h⟩
  refine fun ds d r I => ?_
  obtain ⟨a, b, rfl, ha, hb, rfl⟩ := r
  walk_at "norm"
  have pa := ha.nrm.1
  have pb := hb.nrm.1
  
  have f0 : Int.gcd a.1 b.2 ≠ 0 := Int.gcd_ne_zero_right (by omega)
  have s0 : Int.gcd b.1 a.2 ≠ 0 := Int.gcd_ne_zero_right (by omega)
  have hf : (0 : Int) < (Int.gcd a.1 b.2 : Nat) := by omega
  have hs : (0 : Int) < (Int.gcd b.1 a.2 : Nat) := by omega
  have z1 : ((Int.gcd a.1 b.2 : Nat) : Int).natAbs < 2 ^ 4000 := sz_gcd hb.sz.2 (by omega)
  have z2 : ((Int.gcd b.1 a.2 : Nat) : Int).natAbs < 2 ^ 4000 := sz_gcd ha.sz.2 (by omega)
  refine q_asg (d := .i (Int.gcd a.1 b.2 : Nat)) (by walk_at "ev") ?_
  refine q_asg (d := .i (Int.gcd b.1 a.2 : Nat)) (by walk_at "ev") ?_
  refine p_ret (p_frac (x := (a.1 / (Int.gcd a.1 b.2 : Nat)) * (b.1 / (Int.gcd b.1 a.2 : Nat))) (y := (a.2 / (Int.gcd b.1 a.2 : Nat)) * (b.2 / (Int.gcd a.1 b.2 : Nat))) ?_ rfl)
  walk_at "ev"
  · exact divW hf z1 (by decide)
  · exact divW hs z2 (by decide)
  · exact mulW (sz_div ha.sz.1 (Int.gcd_dvd_left _ _)) (sz_div hb.sz.1 (Int.gcd_dvd_left _ _)) (by decide)
  · exact divW hs z2 (by decide)
  · exact divW hf z1 (by decide)
  · exact mulW (sz_div ha.sz.2 (Int.gcd_dvd_right _ _)) (sz_div hb.sz.2 (Int.gcd_dvd_right _ _)) (by decide)
theorem fok_add (Tp : Top K mg base) : FnOk P w K mg base CX0 2 Tp.f_add Tp.d_add ["a", "b"] (spP K (RVec2 plusM)) := by
  have G_plus := fok_plus (P := P) (w := w) (base := base) Tp
  refine Tp.F_add.ok sc_add (fun vs H Q E h => len_P (fun _ _ z => z.len) h) (fun cdv A outer s H vs Q E hr h => ?_)
  refine ⟨_, (pss_one (ps_ret (pe_tup (pa_cons (pe_call G_plus (hr.mono (by decide)) (by rfl) Tp.g_plus Tp.F_plus.kp Tp.b_plus .nil pass0 (pa_cons (pe_ix (r := rIxT K) ix_tup (pv 0) pe_int (fun _ _ => rfl)) (pa_cons (pe_ix (r := rIxT K) ix_tup (pv 1) pe_int (fun _ _ => rfl)) pa_nil))) (pa_cons (pe_call G_plus (hr.mono (by decide)) (by rfl) Tp.g_plus Tp.F_plus.kp Tp.b_plus .nil pass0 (pa_cons (pe_ix (r := rIxT K) ix_tup (pv 0) pe_int (fun _ _ => rfl)) (pa_cons (pe_ix (r := rIxT K) ix_tup (pv 1) pe_int (fun _ _ => rfl)) pa_nil))) pa_nil))))), body_P ?_ h⟩
  refine fun ds d r I => ?_
  obtain ⟨a, b, x, y, rfl, ha, hb, hx, hy, rfl⟩ := r
  walk_at "norm"
  refine p_ret (p_tup2 (p_cons (p_call (R := RPlus plusM) (ds := [.d (fr a), .d (fr x)]) (by walk_at "ev") (RPlus.mk ha hx)) (p_cons (p_call (R := RPlus plusM) (ds := [.d (fr b), .d (fr y)]) (by walk_at "ev") (RPlus.mk hb hy)) a_nil)))
theorem fok_subtract (Tp : Top K mg base) : FnOk P w K mg base CX0 3 Tp.f_subtract Tp.d_subtract ["a", "b"] (spP K (RVec2 minusM)) := by
  have G_minus := fok_minus (P := P) (w := w) (base := base) Tp
  refine Tp.F_subtract.ok sc_subtract (fun vs H Q E h => len_P (fun _ _ z => z.len) h) (fun cdv A outer s H vs Q E hr h => ?_)
  refine ⟨_, (pss_one (ps_ret (pe_tup (pa_cons (pe_call G_minus (hr.mono (by decide)) (by rfl) Tp.g_minus Tp.F_minus.kp Tp.b_minus .nil pass0 (pa_cons (pe_ix (r := rIxT K) ix_tup (pv 0) pe_int (fun _ _ => rfl)) (pa_cons (pe_ix (r := rIxT K) ix_tup (pv 1) pe_int (fun _ _ => rfl)) pa_nil))) (pa_cons (pe_call G_minus (hr.mono (by decide)) (by rfl) Tp.g_minus Tp.F_minus.kp Tp.b_minus .nil pass0 (pa_cons (pe_ix (r := rIxT K) ix_tup (pv 0) pe_int (fun _ _ => rfl)) (pa_cons (pe_ix (r := rIxT K) ix_tup (pv 1) pe_int (fun _ _ => rfl)) pa_nil))) pa_nil))))), body_P ?_ h⟩
  refine fun ds d r I => ?_
  obtain ⟨a, b, x, y, rfl, ha, hb, hx, hy, rfl⟩ := r
  walk_at "norm"
  refine p_ret (p_tup2 (p_cons (p_call (R := RPlus minusM) (ds := [.d (fr a), .d (fr x)]) (by walk_at "ev") (RPlus.mk ha hx)) (p_cons (p_call (R := RPlus minusM) (ds := [.d (fr b), .d (fr y)]) (by walk_at "ev") (RPlus.mk hb hy)) a_nil)))
theorem fok_scale (Tp : Top K mg base) : FnOk P w K mg base CX0 2 Tp.f_scale Tp.d_scale ["a", "factor"] (spP K RScale) := by
  have G_times := fok_times (P := P) (w := w) (base := base) Tp
  refine Tp.F_scale.ok sc_scale (fun vs H Q E h => len_P (fun _ _ ⟨_, _, _, e, _⟩ => by rw [e]; rfl) h) (fun cdv A outer s H vs Q E hr h => ?_)
  refine ⟨_, (pss_one (ps_ret (pe_tup (pa_cons (pe_call G_times (hr.mono (by decide)) (by rfl) Tp.g_times Tp.F_times.kp Tp.b_times .nil pass0 (pa_cons (pe_ix (r := rIxT K) ix_tup (pv 0) pe_int (fun _ _ => rfl)) (pa_cons (pv 1) pa_nil))) (pa_cons (pe_call G_times (hr.mono (by decide)) (by rfl) Tp.g_times Tp.F_times.kp Tp.b_times .nil pass0 (pa_cons (pe_ix (r := rIxT K) ix_tup (pv 0) pe_int (fun _ _ => rfl)) (pa_cons (pv 1) pa_nil))) pa_nil))))), body_P ?_ h⟩
  refine fun ds d r I => ?_
  obtain ⟨a, b, c, rfl, ha, hb, hc, rfl⟩ := r
  walk_at "norm"
  refine p_ret (p_tup2 (p_cons (p_call (R := RPlus timesM) (ds := [.d (fr a), .d (fr c)]) (by walk_at "ev") (RPlus.mk ha hc)) (p_cons (p_call (R := RPlus timesM) (ds := [.d (fr b), .d (fr c)]) (by walk_at "ev") (RPlus.mk hb hc)) a_nil)))
theorem fok_dot (Tp : Top K mg base) : FnOk P w K mg base CX0 2 Tp.f_dot Tp.d_dot ["a", "b"] (spP K RDot) := by
  have G_plus := fok_plus (P := P) (w := w) (base := base) Tp
  have G_times := fok_times (P := P) (w := w) (base := base) Tp
  refine Tp.F_dot.ok sc_dot (fun vs H Q E h => len_P (fun _ _ ⟨_, _, _, _, e, _⟩ => by rw [e]; rfl) h) (fun cdv A outer s H vs Q E hr h => ?_)
  refine ⟨_, (pss_one (ps_ret (pe_call G_plus (hr.mono (by decide)) (by rfl) Tp.g_plus Tp.F_plus.kp Tp.b_plus .nil pass0 (pa_cons (pe_call G_times (hr.mono (by decide)) (by rfl) Tp.g_times Tp.F_times.kp Tp.b_times .nil pass0 (pa_cons (pe_ix (r := rIxT K) ix_tup (pv 0) pe_int (fun _ _ => rfl)) (pa_cons (pe_ix (r := rIxT K) ix_tup (pv 1) pe_int (fun _ _ => rfl)) pa_nil))) (pa_cons (pe_call G_times (hr.mono (by decide)) (by rfl) Tp.g_times Tp.F_times.kp Tp.b_times .nil pass0 (pa_cons (pe_ix (r := rIxT K) ix_tup (pv 0) pe_int (fun _ _ => rfl)) (pa_cons (pe_ix (r := rIxT K) ix_tup (pv 1) pe_int (fun _ _ => rfl)) pa_nil))) pa_nil))))), body_P ?_ h⟩
  refine fun ds d r I => ?_
  obtain ⟨a, b, x, y, rfl, ha, hb, hx, hy, rfl⟩ := r
  walk_at "norm"
  refine p_ret (p_call (R := RPlus plusM) (p_cons (p_call (R := RPlus timesM) (ds := [.d (fr a), .d (fr x)]) (by walk_at "ev") (RPlus.mk ha hx)) (p_cons (p_call (R := RPlus timesM) (ds := [.d (fr b), .d (fr y)]) (by walk_at "ev") (RPlus.mk hb hy)) a_nil)) (RPlus.mk (ok_times ha hx) (ok_times hb hy)))
theorem fok_law_begin (Tp : Top K mg base) : FnOk P w K mg base CX0 1 Tp.f_law_begin Tp.d_law_begin ["script"] (spBegin K) := by
  refine Tp.F_law_begin.ok sc_law_begin (fun vs H Q E h => by obtain ⟨_, _, _, e, _⟩ := h; rw [e]; rfl) (fun cdv A outer s H vs Q E hr h => ?_)
  refine ⟨_, (pss_cons (ps_set (i := 1) sc_law_begin.nd rfl (.inl rfl) pe_int)
      (pss_cons (ps_for PassesOwn.never rfl (pi_list (pv 0)) (pg_name (i := 2) sc_law_begin.nd rfl (.inl rfl)) (pss_one (ps_set (i := 1) sc_law_begin.nd rfl (.inl rfl) (pe_op op_mod (pe_op op_add (pe_op op_add (pe_op op_mulW (pv 1) pe_int) (pe_op op_mod (pe_callTy call_int1 (by rfl) Tp.n_int (by decide +kernel) (pa_cons (pv 2) pa_nil)) pe_int)) pe_int) pe_int))))
      (pss_one (ps_ret (pe_lst (pa_cons (pe_callTy call_list_of (by rfl) Tp.n_list (by decide +kernel) (pa_cons (pv 0) pa_nil)) (pa_cons pe_int (pa_cons pe_int (pa_cons (pv 1) pa_nil))))))))), body_beg ?_ h⟩
  refine fun ns G0 H0 => ?_
  walk_at "norm"
  refine q_asg (d := .i 1) (by walk_at "ev") ?_
  refine s_seq (ρ1 := [some (.d (.list (ns.map PyData.int))), some (.i (seedAt ns ns.length)), none]) (J := .since NoA G0 H0) ?_ ?_
  · have z := s_forL (K := K) (ts := ?_) (tl := tVar 0) (I := .since NoA G0 H0) (ds := ns.map PyData.int) (j := 2) (fun i => [some (.d (.list (ns.map PyData.int))), some (.i (seedAt ns i)), none]) (fun _ => .since NoA G0 H0) (e_var rfl) rfl ?_
    · rw [List.length_map] at z
      exact z
    · intro i x hx
      rw [List.getElem?_map, Option.map_eq_some_iff] at hx
      obtain ⟨n, hn, rfl⟩ := hx
      have b := seed_ok ns i
      refine s_lessN (ρ' := [some (.d (.list (ns.map PyData.int))), some (.i (seedAt ns (i + 1))), some (.i n)]) ⟨.inr rfl, .inr rfl, .inl rfl, trivial⟩ ?_
      have e : seedAt ns (i + 1) = (seedAt ns i * 69621 + n % 2147483629 + 7) % 2147483647 := by
        show seedF (seedAt ns i) (ns.getD i 0) = _
        rw [List.getD_eq_getElem?_getD, hn]
        rfl
      rw [e]
      refine p_asg (d := .i ((seedAt ns i * 69621 + n % 2147483629 + 7) % 2147483647)) ?_
      walk_at "ev"
      · exact mulW (m := 32) (n := 32) (by omega) (by decide) (by decide)
      · decide
      · decide
  · exact s_retBeg (seed_ok ns _) (by walk_at "ev")
theorem fok_law_take (Tp : Top K mg base) : FnOk P w K mg base CX0 1 Tp.f_law_take Tp.d_law_take ["d", "many"] (spW K RTake) := by
  refine Tp.F_law_take.ok sc_law_take (fun vs H Q E h => len_W (fun _ _ _ _ ⟨_, e, _⟩ => by rw [e]; rfl) h) (fun cdv A outer s H vs Q E hr h => ?_)
  refine ⟨_, (pss_cons (ps_if (PW.pt (pw_and (pt_cmpR op_eq (pe_ix (r := rIxL K) ix_list (pv 0) pe_int (fun _ _ => rfl)) pe_int (nomark _)) (pw_and1 (pt_cmpR op_lt (pe_ix (r := rIxL K) ix_list (pv 0) pe_int (fun _ _ => rfl)) (pe_callB call_len_seq (by rfl) Tp.n_len (by decide +kernel) (pa_cons (pe_ix (r := rIxL K) ix_list (pv 0) pe_int (fun _ _ => rfl)) pa_nil)) (nomark _))))) (pss_cons (ps_asg (pe_callB call_abs (by rfl) Tp.n_abs (by decide +kernel) (pa_cons (pe_callTy call_int1 (by rfl) Tp.n_int (by decide +kernel) (pa_cons (pe_ix (r := rIxL K) ix_list (pe_ix (r := rIxL K) ix_list (pv 0) pe_int (fun _ _ => rfl)) (pe_ix (r := rIxL K) ix_list (pv 0) pe_int (fun _ _ => rfl)) (fun _ _ => rfl)) pa_nil)) pa_nil)) (pg_sub (pv 0) pe_int set_list))
      (pss_cons (ps_asg (pe_op op_add (pe_ix (r := rIxL K) ix_list (pv 0) pe_int (fun _ _ => rfl)) pe_int) (pg_sub (pv 0) pe_int set_list))
      (pss_one (ps_if (pt_cmpR op_lt (pe_ix (r := rIxL K) ix_list (pv 0) pe_int (fun _ _ => rfl)) (pe_op op_pow pe_int pe_int) (nomark _)) (pss_cons (ps_set (i := 2) sc_law_take.nd rfl (.inl rfl) (pe_callTy call_int1 (by rfl) Tp.n_int (by decide +kernel) (pa_cons (pe_ix (r := rIxL K) ix_list (pv 0) pe_int (fun _ _ => rfl)) pa_nil)))
      (pss_cons (ps_asg pe_int (pg_sub (pv 0) pe_int set_list))
      (pss_one (ps_ret (pe_op op_mod (pv 2) (pv 1)))))) pss_nil)))) pss_nil)
      (pss_cons (ps_if (pt_cmpR op_gt (pe_ix (r := rIxL K) ix_list (pv 0) pe_int (fun _ _ => rfl)) pe_int (nomark _)) (pss_cons (ps_set (i := 3) sc_law_take.nd rfl (.inl rfl) (pe_op op_mod (pe_callTy call_int1 (by rfl) Tp.n_int (by decide +kernel) (pa_cons (pe_ix (r := rIxL K) ix_list (pv 0) pe_int (fun _ _ => rfl)) pa_nil)) (pv 1)))
      (pss_cons (ps_asg (pe_op op_fdivW (pe_callTy call_int1 (by rfl) Tp.n_int (by decide +kernel) (pa_cons (pe_ix (r := rIxL K) ix_list (pv 0) pe_int (fun _ _ => rfl)) pa_nil)) (pv 1)) (pg_sub (pv 0) pe_int set_list))
      (pss_one (ps_ret (pv 3))))) pss_nil)
      (pss_cons (ps_asg (pe_op op_mod (pe_callTy call_int1 (by rfl) Tp.n_int (by decide +kernel) (pa_cons (pe_op op_add (pe_op op_mulW (pe_ix (r := rIxL K) ix_list (pv 0) pe_int (fun _ _ => rfl)) pe_int) pe_int) pa_nil)) pe_int) (pg_sub (pv 0) pe_int set_list))
      (pss_one (ps_ret (pe_op op_mod (pe_callTy call_int1 (by rfl) Tp.n_int (by decide +kernel) (pa_cons (pe_op op_fdivW (pe_ix (r := rIxL K) ix_list (pv 0) pe_int (fun _ _ => rfl)) pe_int) pa_nil)) (pv 1))))))), body_W ?_ h⟩
  refine fun ds C d C' r p J hf => ?_
  obtain ⟨m, rfl, ok, hm, hz, rfl, rfl⟩ := r
  walk_at "norm"
  have dm : ∀ i : Int, CDivW i m := fun i => divW hm hz (by decide)
  by_cases c1 : C.rest = 0 ∧ C.pos < C.ns.length
  · have e1 : (C.ns.map PyData.int)[C.pos]? = some (.int (C.ns.getD C.pos 0)) := by
      rw [List.getElem?_map, List.getElem?_eq_getElem c1.2, List.getD_eq_getElem?_getD, List.getElem?_eq_getElem c1.2]
      rfl
    generalize hx : ((C.ns.getD C.pos 0).natAbs : Int) = x
    have hx0 : 0 ≤ x := by omega
    by_cases c2 : x < 10 ^ 18
    · have e : take C m = (x % m, { C with pos := C.pos + 1, rest := 0 }) := by
        unfold take
        rw [if_pos c1, hx, if_pos c2]
      rw [e]
      refine s_stop (s_ifT (t_andT (t_is (p_test (p_eqI (i := C.rest) (j := 0) (d_ix2 (e_var rfl)) e_int)) (decide_eq_true c1.1)) (t_is (p_test (p_lt (i := (C.pos : Nat)) (j := ((C.ns.map PyData.int).length : Nat)) (d_ix1 (e_var rfl)) (p_len (p_cons (d_ix0 (e_var rfl)) a_nil)))) (decide_eq_true (by rw [List.length_map]; omega)))) ?_)
      refine s_seq (d_set2 (x := x) (e_is (p_abs (i := C.ns.getD C.pos 0) (p_cons (p_int1 (p_cons (e_ixL (j := C.pos) (d_ix0 (e_var rfl)) (d_ix1 (e_var rfl)) e1) a_nil)) a_nil)) (by rw [hx])) (e_var rfl) hf) ?_
      refine s_seq (d_set1 (n := C.pos + 1) (x := (C.pos : Int) + 1) (by walk_at "ev") rfl (e_var rfl) hf) ?_
      refine q_ifT (p_test (p_lt (i := x) (j := 10 ^ (18 : Int).toNat) (d_ix2 (e_var rfl)) (p_pow e_int e_int ⟨by decide, by decide, by decide⟩))) (decide_eq_true c2) ?_
      refine q_asg (d := .i x) (p_int1 (p_cons (d_ix2 (e_var rfl)) a_nil)) ?_
      refine s_seq (d_set2 (x := 0) e_int (e_var rfl) hf) ?_
      refine p_ret ?_
      walk_at "ev"
      exact hm
    · have e : take C m = take1 { C with pos := C.pos + 1, rest := x } m := by
        unfold take
        rw [if_pos c1, hx, if_neg c2]
      rw [e]
      have xp : 0 < x := by
        have : (0 : Int) < 10 ^ 18 := by decide
        omega
      refine s_seq (ρ1 := [some (.r p), some (.i m), none, none]) (J := dJ K p { C with pos := C.pos + 1, rest := x } J) (s_ifT (t_andT (t_is (p_test (p_eqI (i := C.rest) (j := 0) (d_ix2 (e_var rfl)) e_int)) (decide_eq_true c1.1)) (t_is (p_test (p_lt (i := (C.pos : Nat)) (j := ((C.ns.map PyData.int).length : Nat)) (d_ix1 (e_var rfl)) (p_len (p_cons (d_ix0 (e_var rfl)) a_nil)))) (decide_eq_true (by rw [List.length_map]; omega)))) ?_) ?_
      · refine s_seq (d_set2 (x := x) (e_is (p_abs (i := C.ns.getD C.pos 0) (p_cons (p_int1 (p_cons (e_ixL (j := C.pos) (d_ix0 (e_var rfl)) (d_ix1 (e_var rfl)) e1) a_nil)) a_nil)) (by rw [hx])) (e_var rfl) hf) ?_
        refine s_seq (d_set1 (n := C.pos + 1) (x := (C.pos : Int) + 1) (by walk_at "ev") rfl (e_var rfl) hf) ?_
        exact q_ifF (p_test (p_lt (i := x) (j := 10 ^ (18 : Int).toNat) (d_ix2 (e_var rfl)) (p_pow e_int e_int ⟨by decide, by decide, by decide⟩))) (decide_eq_false c2) s_next
      · have e2 : take1 { C with pos := C.pos + 1, rest := x } m = (x % m, { C with pos := C.pos + 1, rest := x / m }) := by
          unfold take1
          exact if_pos xp
        rw [e2]
        refine s_stop (q_ifT (p_test (p_gt (i := x) (j := 0) (d_ix2 (e_var rfl)) e_int)) (decide_eq_true xp) ?_)
        refine q_asg (d := .i (x % m)) (p_mod (p_int1 (p_cons (d_ix2 (e_var rfl)) a_nil)) (e_var rfl) hm) ?_
        refine s_seq (d_set2 (x := x / m) (p_div (p_int1 (p_cons (d_ix2 (e_var rfl)) a_nil)) (e_var rfl) (dm x)) (e_var rfl) hf) ?_
        exact p_ret (e_var rfl)
  · have e : take C m = take1 C m := by
      unfold take
      rw [if_neg c1]
    rw [e]
    refine s_seq (ρ1 := [some (.r p), some (.i m), none, none]) (J := dJ K p C J) (s_ifF (J := dJ K p C J) ?_ s_next) ?_
    · by_cases c3 : C.rest = 0
      · exact t_andT (t_is (p_test (p_eqI (i := C.rest) (j := 0) (d_ix2 (e_var rfl)) e_int)) (decide_eq_true c3)) (t_is (p_test (p_lt (i := (C.pos : Nat)) (j := ((C.ns.map PyData.int).length : Nat)) (d_ix1 (e_var rfl)) (p_len (p_cons (d_ix0 (e_var rfl)) a_nil)))) (decide_eq_false (by rw [List.length_map]; omega)))
      · exact t_andF (t_is (p_test (p_eqI (i := C.rest) (j := 0) (d_ix2 (e_var rfl)) e_int)) (decide_eq_false c3))
    by_cases c4 : 0 < C.rest
    · have e2 : take1 C m = (C.rest % m, { C with rest := C.rest / m }) := by
        unfold take1
        exact if_pos c4
      rw [e2]
      refine s_stop (q_ifT (p_test (p_gt (i := C.rest) (j := 0) (d_ix2 (e_var rfl)) e_int)) (decide_eq_true c4) ?_)
      refine q_asg (d := .i (C.rest % m)) (p_mod (p_int1 (p_cons (d_ix2 (e_var rfl)) a_nil)) (e_var rfl) hm) ?_
      refine s_seq (d_set2 (x := C.rest / m) (p_div (p_int1 (p_cons (d_ix2 (e_var rfl)) a_nil)) (e_var rfl) (dm _)) (e_var rfl) hf) ?_
      exact p_ret (e_var rfl)
    · have e2 : take1 C m = (((C.seed * 48271 + 11) % 2147483647 / 3) % m, { C with seed := (C.seed * 48271 + 11) % 2147483647 }) := by
        unfold take1
        exact if_neg c4
      rw [e2]
      have b := ok.s
      refine q_skip (p_test (p_gt (i := C.rest) (j := 0) (d_ix2 (e_var rfl)) e_int)) (decide_eq_false c4) ?_
      refine s_seq (d_set3 (x := (C.seed * 48271 + 11) % 2147483647) (p_mod (p_int1 (p_cons (p_add (p_mul (d_ix3 (e_var rfl)) e_int (mulW (m := 32) (n := 32) (by omega) (by decide) (by decide))) e_int) a_nil)) e_int (by decide)) (e_var rfl) hf) ?_
      exact p_ret (p_mod (p_int1 (p_cons (p_div (d_ix3 (e_var rfl)) e_int (divW (n := 2) (by decide) (by decide) (by decide))) a_nil)) (e_var rfl) hm)
theorem fok_law_signed (Tp : Top K mg base) : FnOk P w K mg base CX0 2 Tp.f_law_signed Tp.d_law_signed ["d", "most"] (spW K RSigned) := by
  have G_law_take := fok_law_take (P := P) (w := w) (base := base) Tp
  refine Tp.F_law_signed.ok sc_law_signed (fun vs H Q E h => len_W (fun _ _ _ _ ⟨_, e, _⟩ => by rw [e]; rfl) h) (fun cdv A outer s H vs Q E hr h => ?_)
  refine ⟨_, (pss_one (ps_ret (pe_op op_sub (pe_call G_law_take (hr.mono (by decide)) (by rfl) Tp.g_law_take Tp.F_law_take.kp Tp.b_law_take .nil pass0 (pa_cons (pv 0) (pa_cons (pe_op op_add (pe_op op_mulW pe_int (pv 1)) pe_int) pa_nil))) (pv 1)))), body_W ?_ h⟩
  refine fun ds C d C' r p J hf => ?_
  obtain ⟨m, rfl, ok, hm, hz, rfl, rfl⟩ := r
  walk_at "norm"
  refine s_ret (e_sub (e_draw (R := RTake) (ds := [.i (2 * m + 1)]) (C := C) (p_cons (e_var rfl) (p_cons (p_add (p_mul e_int (e_var rfl) (mulW (m := 2) (n := 8000) (by decide) hz (by decide))) e_int) a_nil)) ⟨_, rfl, ok, by omega, ?_, rfl, rfl⟩ hf) (e_var rfl))
  exact sz_le (n := 8500) (sz_add (m := 8002) (sz_mul (m := 2) (n := 8000) (by decide) hz) (Nat.lt_of_lt_of_le (show (1 : Int).natAbs < 2 ^ 1 by decide) (Nat.pow_le_pow_right (by decide) (by decide)))) (by decide)
theorem fok_law_gcd (Tp : Top K mg base) : FnOk P w K mg base CX0 1 Tp.f_law_gcd Tp.d_law_gcd ["a", "b"] (spP K RGcd) := by
  refine Tp.F_law_gcd.ok sc_law_gcd (fun vs H Q E h => len_P (fun _ _ ⟨_, _, e, _⟩ => by rw [e]; rfl) h) (fun cdv A outer s H vs Q E hr h => ?_)
  refine ⟨_, (pss_cons (ps_while PassesOwn.never (pt_cmpR op_ne (pv 1) pe_int (nomark _)) (pss_one (ps_par (i := 0) (j := 1) rfl sc_law_gcd.nd rfl rfl (by decide) rfl rfl (pa_cons (pv 1) (pa_cons (pe_op op_mod (pe_callTy call_int1 (by rfl) Tp.n_int (by decide +kernel) (pa_cons (pv 0) pa_nil)) (pv 1)) pa_nil)) (by rfl))))
      (pss_one (ps_ret (pe_callB call_abs (by rfl) Tp.n_abs (by decide +kernel) (pa_cons (pv 0) pa_nil))))), body_P ?_ h⟩
  refine fun ds d r I => ?_
  obtain ⟨x, y, rfl, hx, hy, rfl⟩ := r
  walk_at "norm"
  refine s_seq (ρ1 := [some (.i (Int.gcd x y : Nat)), some (.i 0)]) (J := I) ?_ ?_
  · refine s_while (α := Int × Int) (fun s => Int.gcd s.1 s.2 = Int.gcd x y ∧ 0 ≤ s.1 ∧ 0 ≤ s.2) (fun s => [some (.i s.1), some (.i s.2)]) (fun _ => I) (fun s => s.2.natAbs) (x, y) ⟨rfl, hx, hy⟩ fun s iv => ?_
    obtain ⟨h1, h2, h3⟩ := iv
    by_cases h : s.2 = 0
    · refine .inr ⟨t_is (t_test (p_neI (i := s.2) (j := 0) (by walk_at "ev") (by walk_at "ev"))) (by rw [h]; rfl), ?_⟩
      rw [h, Int.gcd_zero_right] at h1
      have e : s.1 = (Int.gcd x y : Nat) := by rw [← h1]; omega
      rw [h, e]
    · refine .inl ⟨t_is (t_test (p_neI (i := s.2) (j := 0) (by walk_at "ev") (by walk_at "ev"))) (by rw [decide_eq_false h]; rfl), .inl ⟨(s.2, s.1 % s.2), ⟨(gcd_step s.1 s.2).trans h1, h3, Int.emod_nonneg _ h⟩, ?_, ?_⟩⟩
      · have q := Int.emod_lt_of_pos s.1 (show 0 < s.2 by omega)
        have q2 := Int.emod_nonneg s.1 h
        show (s.1 % s.2).natAbs < s.2.natAbs
        omega
      · refine p_par (d := .i s.2) (e := .i (s.1 % s.2)) ?_
        walk_at "ev"
        omega
  · refine p_ret (e_is (p_abs (i := (Int.gcd x y : Nat)) (by walk_at "ev")) ?_)
    rw [Int.natAbs_natCast]
theorem fok_law_f (Tp : Top K mg base) : FnOk P w K mg base CX0 2 Tp.f_law_f Tp.d_law_f ["a", "b"] (spP K RF) := by
  have G_law_gcd := fok_law_gcd (P := P) (w := w) (base := base) Tp
  refine Tp.F_law_f.ok sc_law_f (fun vs H Q E h => len_P (fun _ _ ⟨_, _, e, _⟩ => by rw [e]; rfl) h) (fun cdv A outer s H vs Q E hr h => ?_)
  refine ⟨_, (pss_cons (ps_if (pt_cmpR op_lt (pv 1) pe_int (nomark _)) (pss_cons (ps_set (i := 0) sc_law_f.nd rfl (.inl rfl) (pe_op op_sub pe_int (pv 0)))
      (pss_one (ps_set (i := 1) sc_law_f.nd rfl (.inl rfl) (pe_op op_sub pe_int (pv 1))))) pss_nil)
      (pss_cons (ps_set (i := 2) sc_law_f.nd rfl (.inl rfl) (pe_call G_law_gcd (hr.mono (by decide)) (by rfl) Tp.g_law_gcd Tp.F_law_gcd.kp Tp.b_law_gcd .nil pass0 (pa_cons (pe_callB call_abs (by rfl) Tp.n_abs (by decide +kernel) (pa_cons (pv 0) pa_nil)) (pa_cons (pv 1) pa_nil))))
      (pss_one (ps_ret (pe_tup (pa_cons (pe_op op_fdivW (pv 0) (pv 2)) (pa_cons (pe_op op_fdivW (pv 1) (pv 2)) pa_nil))))))), body_P ?_ h⟩
  refine fun ds d r I => ?_
  obtain ⟨x, y, rfl, h0, hx, hy, rfl⟩ := r
  walk_at "norm"
  refine s_seq (ρ1 := [some (.i (if y < 0 then 0 - x else x)), some (.i (if y < 0 then 0 - y else y)), none]) (J := I) ?_ ?_
  · by_cases h : y < 0
    · rw [if_pos h, if_pos h]
      exact q_ifT (p_test (p_lt (i := y) (j := 0) (by walk_at "ev") (by walk_at "ev"))) (decide_eq_true h) (q_asg (d := .i (0 - x)) (by walk_at "ev") (p_asg (d := .i (0 - y)) (by walk_at "ev")))
    · rw [if_neg h, if_neg h]
      exact q_ifF (p_test (p_lt (i := y) (j := 0) (by walk_at "ev") (by walk_at "ev"))) (decide_eq_false h) s_next
  · have e : lf x y = nf (if y < 0 then 0 - x else x) (if y < 0 then 0 - y else y) := by
      unfold lf
      split <;> rfl
    rw [e]
    have h0' : 0 < (if y < 0 then 0 - y else y) := by split <;> omega
    have hx' : (if y < 0 then 0 - x else x).natAbs < 2 ^ 8500 := by
      split
      · rw [Int.zero_sub, Int.natAbs_neg]; exact hx
      · exact hx
    have hy' : (if y < 0 then 0 - y else y).natAbs < 2 ^ 8500 := by
      split
      · rw [Int.zero_sub, Int.natAbs_neg]; exact hy
      · exact hy
    generalize (if y < 0 then 0 - y else y) = v at *
    generalize (if y < 0 then 0 - x else x) = u at *
    have g0 : Int.gcd u v ≠ 0 := Int.gcd_ne_zero_right (by omega)
    have hg : (0 : Int) < (Int.gcd u v : Nat) := by omega
    have zg : ((Int.gcd u v : Nat) : Int).natAbs < 2 ^ 8500 := sz_gcd hy' (by omega)
    refine q_asg (d := .i (Int.gcd u v : Nat)) (e_is (p_call (R := RGcd) (ds := [.i (u.natAbs : Nat), .i v]) (by walk_at "ev") ⟨_, _, rfl, by omega, by omega, rfl⟩) (by rw [gcd_abs])) ?_
    refine p_ret (p_frac (x := u / (Int.gcd u v : Nat)) (y := v / (Int.gcd u v : Nat)) ?_ rfl)
    walk_at "ev"
    · exact divW hg zg (by decide)
    · exact divW hg zg (by decide)
theorem fok_law_plus (Tp : Top K mg base) : FnOk P w K mg base CX0 3 Tp.f_law_plus Tp.d_law_plus ["a", "b"] (spP K (RPlus lplus)) := by
  have G_law_f := fok_law_f (P := P) (w := w) (base := base) Tp
  refine Tp.F_law_plus.ok sc_law_plus (fun vs H Q E h => len_P (fun _ _ z => z.len) h) (fun cdv A outer s H vs Q E hr h => ?_)
  refine ⟨_, (pss_one (ps_ret (pe_call G_law_f (hr.mono (by decide)) (by rfl) Tp.g_law_f Tp.F_law_f.kp Tp.b_law_f .nil pass0 (pa_cons (pe_op op_add (pe_op op_mulW (pe_ix (r := rIxT K) ix_tup (pv 0) pe_int (fun _ _ => rfl)) (pe_ix (r := rIxT K) ix_tup (pv 1) pe_int (fun _ _ => rfl))) (pe_op op_mulW (pe_ix (r := rIxT K) ix_tup (pv 1) pe_int (fun _ _ => rfl)) (pe_ix (r := rIxT K) ix_tup (pv 0) pe_int (fun _ _ => rfl)))) (pa_cons (pe_op op_mulW (pe_ix (r := rIxT K) ix_tup (pv 0) pe_int (fun _ _ => rfl)) (pe_ix (r := rIxT K) ix_tup (pv 1) pe_int (fun _ _ => rfl))) pa_nil))))), body_P ?_ h⟩
  refine fun ds d r I => ?_
  obtain ⟨a, b, rfl, ha, hb, rfl⟩ := r
  walk_at "norm"
  have pa := ha.nrm.1
  have pb := hb.nrm.1
  
  have na : a.2 ≠ 0 := by omega
  have nb : b.2 ≠ 0 := by omega
  have n2 : a.2 * b.2 ≠ 0 := Int.mul_ne_zero na nb
  refine p_ret (p_call (R := RF) (ds := [.i (a.1 * b.2 + b.1 * a.2), .i (a.2 * b.2)]) ?_ (RF.mk (m := 8001) (n := 8000) n2 (sz_add (m := 8000) (sz_mul ha.sz.1 hb.sz.2) (sz_mul hb.sz.1 ha.sz.2)) (sz_mul ha.sz.2 hb.sz.2) (by decide) (by decide)))
  walk_at "ev"
  all_goals first | exact mulW ha.sz.1 hb.sz.1 (by decide) | exact mulW ha.sz.1 hb.sz.2 (by decide) | exact mulW hb.sz.1 ha.sz.2 (by decide) | exact mulW ha.sz.2 hb.sz.2 (by decide)
theorem fok_law_minus (Tp : Top K mg base) : FnOk P w K mg base CX0 3 Tp.f_law_minus Tp.d_law_minus ["a", "b"] (spP K (RPlus lminus)) := by
  have G_law_f := fok_law_f (P := P) (w := w) (base := base) Tp
  refine Tp.F_law_minus.ok sc_law_minus (fun vs H Q E h => len_P (fun _ _ z => z.len) h) (fun cdv A outer s H vs Q E hr h => ?_)
  refine ⟨_, (pss_one (ps_ret (pe_call G_law_f (hr.mono (by decide)) (by rfl) Tp.g_law_f Tp.F_law_f.kp Tp.b_law_f .nil pass0 (pa_cons (pe_op op_sub (pe_op op_mulW (pe_ix (r := rIxT K) ix_tup (pv 0) pe_int (fun _ _ => rfl)) (pe_ix (r := rIxT K) ix_tup (pv 1) pe_int (fun _ _ => rfl))) (pe_op op_mulW (pe_ix (r := rIxT K) ix_tup (pv 1) pe_int (fun _ _ => rfl)) (pe_ix (r := rIxT K) ix_tup (pv 0) pe_int (fun _ _ => rfl)))) (pa_cons (pe_op op_mulW (pe_ix (r := rIxT K) ix_tup (pv 0) pe_int (fun _ _ => rfl)) (pe_ix (r := rIxT K) ix_tup (pv 1) pe_int (fun _ _ => rfl))) pa_nil))))), body_P ?_ h⟩
  refine fun ds d r I => ?_
  obtain ⟨a, b, rfl, ha, hb, rfl⟩ := r
  walk_at "norm"
  have pa := ha.nrm.1
  have pb := hb.nrm.1
  
  have na : a.2 ≠ 0 := by omega
  have nb : b.2 ≠ 0 := by omega
  have n2 : a.2 * b.2 ≠ 0 := Int.mul_ne_zero na nb
  refine p_ret (p_call (R := RF) (ds := [.i (a.1 * b.2 - b.1 * a.2), .i (a.2 * b.2)]) ?_ (RF.mk (m := 8001) (n := 8000) n2 (sz_sub (m := 8000) (sz_mul ha.sz.1 hb.sz.2) (sz_mul hb.sz.1 ha.sz.2)) (sz_mul ha.sz.2 hb.sz.2) (by decide) (by decide)))
  walk_at "ev"
  all_goals first | exact mulW ha.sz.1 hb.sz.1 (by decide) | exact mulW ha.sz.1 hb.sz.2 (by decide) | exact mulW hb.sz.1 ha.sz.2 (by decide) | exact mulW ha.sz.2 hb.sz.2 (by decide)
theorem fok_law_times (Tp : Top K mg base) : FnOk P w K mg base CX0 3 Tp.f_law_times Tp.d_law_times ["a", "b"] (spP K (RPlus ltimes)) := by
  have G_law_f := fok_law_f (P := P) (w := w) (base := base) Tp
  refine Tp.F_law_times.ok sc_law_times (fun vs H Q E h => len_P (fun _ _ z => z.len) h) (fun cdv A outer s H vs Q E hr h => ?_)
  refine ⟨_, (pss_one (ps_ret (pe_call G_law_f (hr.mono (by decide)) (by rfl) Tp.g_law_f Tp.F_law_f.kp Tp.b_law_f .nil pass0 (pa_cons (pe_op op_mulW (pe_ix (r := rIxT K) ix_tup (pv 0) pe_int (fun _ _ => rfl)) (pe_ix (r := rIxT K) ix_tup (pv 1) pe_int (fun _ _ => rfl))) (pa_cons (pe_op op_mulW (pe_ix (r := rIxT K) ix_tup (pv 0) pe_int (fun _ _ => rfl)) (pe_ix (r := rIxT K) ix_tup (pv 1) pe_int (fun _ _ => rfl))) pa_nil))))), body_P ?_ h⟩
  refine fun ds d r I => ?_
  obtain ⟨a, b, rfl, ha, hb, rfl⟩ := r
  walk_at "norm"
  have pa := ha.nrm.1
  have pb := hb.nrm.1
  
  have na : a.2 ≠ 0 := by omega
  have nb : b.2 ≠ 0 := by omega
  have n2 : a.2 * b.2 ≠ 0 := Int.mul_ne_zero na nb
  refine p_ret (p_call (R := RF) (ds := [.i (a.1 * b.1), .i (a.2 * b.2)]) ?_ (RF.mk (m := 8001) (n := 8000) n2 (sz_le (sz_mul (m := 4000) (n := 4000) ha.sz.1 hb.sz.1) (by decide)) (sz_mul ha.sz.2 hb.sz.2) (by decide) (by decide)))
  walk_at "ev"
  all_goals first | exact mulW ha.sz.1 hb.sz.1 (by decide) | exact mulW ha.sz.1 hb.sz.2 (by decide) | exact mulW hb.sz.1 ha.sz.2 (by decide) | exact mulW ha.sz.2 hb.sz.2 (by decide)
theorem fok_law_part (Tp : Top K mg base) : FnOk P w K mg base CX0 3 Tp.f_law_part Tp.d_law_part ["d", "most"] (spW K RPart) := by
  have G_law_f := fok_law_f (P := P) (w := w) (base := base) Tp
  have G_law_signed := fok_law_signed (P := P) (w := w) (base := base) Tp
  have G_law_take := fok_law_take (P := P) (w := w) (base := base) Tp
  refine Tp.F_law_part.ok sc_law_part (fun vs H Q E h => len_W (fun _ _ _ _ ⟨_, e, _⟩ => by rw [e]; rfl) h) (fun cdv A outer s H vs Q E hr h => ?_)
  refine ⟨_, (pss_one (ps_ret (pe_call G_law_f (hr.mono (by decide)) (by rfl) Tp.g_law_f Tp.F_law_f.kp Tp.b_law_f .nil pass0 (pa_cons (pe_call G_law_signed (hr.mono (by decide)) (by rfl) Tp.g_law_signed Tp.F_law_signed.kp Tp.b_law_signed .nil pass0 (pa_cons (pv 0) (pa_cons (pe_op op_mulW (pv 1) pe_int) pa_nil))) (pa_cons (pe_op op_add pe_int (pe_call G_law_take (hr.mono (by decide)) (by rfl) Tp.g_law_take Tp.F_law_take.kp Tp.b_law_take .nil pass0 (pa_cons (pv 0) (pa_cons pe_int pa_nil)))) pa_nil))))), body_W ?_ h⟩
  refine fun ds C d C' r p J hf => ?_
  obtain ⟨m, rfl, ok, hm, hz, rfl, rfl⟩ := r
  walk_at "norm"
  have z2 : (m * 2).natAbs < 2 ^ 7002 := sz_mul (n := 2) hz (by decide)
  obtain ⟨o1, b1, b2⟩ := take_ok (C := C) (m := 2 * (m * 2) + 1) ok (by omega)
  obtain ⟨o2, b3, b4⟩ := take_ok (C := (take C (2 * (m * 2) + 1)).2) (m := 3) o1 (by omega)
  refine s_ret (e_call (R := RF) (a_cons (e_draw (R := RSigned) (ds := [.i (m * 2)]) (C := C) (p_cons (e_var rfl) (p_cons (p_mul (e_var rfl) e_int (mulW (m := 7000) (n := 2) hz (by decide) (by decide))) a_nil)) ⟨_, rfl, ok, by omega, sz_le z2 (by decide), rfl, rfl⟩ hf)
    (a_cons (e_add e_int (e_draw (R := RTake) (ds := [.i 3]) (p_cons (e_var rfl) (p_cons e_int a_nil)) ⟨_, rfl, o1, by decide, Nat.lt_of_lt_of_le (show (3 : Int).natAbs < 2 ^ 2 by decide) (Nat.pow_le_pow_right (by decide) (by decide)), rfl, rfl⟩ hf)) a_nil)) ?_)
  refine RF.mk (m := 7010) (n := 7010) (by omega) ?_ ?_ (by decide) (by decide)
  · have : (2 : Nat) ^ 7010 = 2 ^ 7002 * 256 := by decide +kernel
    omega
  · refine Nat.lt_of_lt_of_le (show _ < 2 ^ 3 by omega) (Nat.pow_le_pow_right (by decide) (by decide))
theorem fok_law_vector (Tp : Top K mg base) : FnOk P w K mg base CX0 4 Tp.f_law_vector Tp.d_law_vector ["d", "most"] (spW K RVec) := by
  have G_law_part := fok_law_part (P := P) (w := w) (base := base) Tp
  refine Tp.F_law_vector.ok sc_law_vector (fun vs H Q E h => len_W (fun _ _ _ _ ⟨_, e, _⟩ => by rw [e]; rfl) h) (fun cdv A outer s H vs Q E hr h => ?_)
  refine ⟨_, (pss_one (ps_ret (pe_tup (pa_cons (pe_call G_law_part (hr.mono (by decide)) (by rfl) Tp.g_law_part Tp.F_law_part.kp Tp.b_law_part .nil pass0 (pa_cons (pv 0) (pa_cons (pv 1) pa_nil))) (pa_cons (pe_call G_law_part (hr.mono (by decide)) (by rfl) Tp.g_law_part Tp.F_law_part.kp Tp.b_law_part .nil pass0 (pa_cons (pv 0) (pa_cons (pv 1) pa_nil))) pa_nil))))), body_W ?_ h⟩
  refine fun ds C d C' r p J hf => ?_
  obtain ⟨m, rfl, ok, hm, hz, rfl, rfl⟩ := r
  walk_at "norm"
  obtain ⟨o1, _⟩ := part_ok (C := C) (m := m) ok hm hz
  refine s_ret (e_tup (a_cons (e_draw (R := RPart) (ds := [.i m]) (C := C) (by walk_at "ev") ⟨_, rfl, ok, hm, hz, rfl, rfl⟩ hf) (a_cons (e_draw (R := RPart) (ds := [.i m]) (by walk_at "ev") ⟨_, rfl, o1, hm, hz, rfl, rfl⟩ hf) a_nil)) (.cons (.cons .nil)) (show 2 ≤ 100000 by decide))
theorem fok_law (Tp : Top K mg base) : FnOk P w K mg base CX0 5 Tp.f_law Tp.d_law ["script"] (spLaw K) := by
  have G_law_begin := fok_law_begin (P := P) (w := w) (base := base) Tp
  have G_law_vector := fok_law_vector (P := P) (w := w) (base := base) Tp
  have G_law_part := fok_law_part (P := P) (w := w) (base := base) Tp
  have G_law_take := fok_law_take (P := P) (w := w) (base := base) Tp
  have G_scale := fok_scale (P := P) (w := w) (base := base) Tp
  have G_dot := fok_dot (P := P) (w := w) (base := base) Tp
  have G_law_plus := fok_law_plus (P := P) (w := w) (base := base) Tp
  have G_add := fok_add (P := P) (w := w) (base := base) Tp
  have G_subtract := fok_subtract (P := P) (w := w) (base := base) Tp
  have G_law_times := fok_law_times (P := P) (w := w) (base := base) Tp
  have G_law_minus := fok_law_minus (P := P) (w := w) (base := base) Tp
  refine Tp.F_law.ok sc_law (fun vs H Q E h => len_L h) (fun cdv A outer s H vs Q E hr h => ?_)
  refine ⟨_, (pss_cons (ps_set (i := 1) sc_law.nd rfl (.inl rfl) (pe_call G_law_begin (hr.mono (by decide)) (by rfl) Tp.g_law_begin Tp.F_law_begin.kp Tp.b_law_begin .nil pass0 (pa_cons (pv 0) pa_nil)))
      (pss_cons (ps_set (i := 2) sc_law.nd rfl (.inl rfl) (pe_ix (r := rIxT K) ix_tup (pe_tup (pa_cons pe_int (pa_cons (pe_op op_pow pe_int pe_int) pa_nil))) (pe_call G_law_take (hr.mono (by decide)) (by rfl) Tp.g_law_take Tp.F_law_take.kp Tp.b_law_take .nil pass0 (pa_cons (pv 1) (pa_cons pe_int pa_nil))) (fun _ _ => rfl)))
      (pss_cons (ps_set (i := 3) sc_law.nd rfl (.inl rfl) (pe_call G_law_vector (hr.mono (by decide)) (by rfl) Tp.g_law_vector Tp.F_law_vector.kp Tp.b_law_vector .nil pass0 (pa_cons (pv 1) (pa_cons (pv 2) pa_nil))))
      (pss_cons (ps_set (i := 4) sc_law.nd rfl (.inl rfl) (pe_call G_law_vector (hr.mono (by decide)) (by rfl) Tp.g_law_vector Tp.F_law_vector.kp Tp.b_law_vector .nil pass0 (pa_cons (pv 1) (pa_cons (pv 2) pa_nil))))
      (pss_cons (ps_set (i := 5) sc_law.nd rfl (.inl rfl) (pe_call G_law_part (hr.mono (by decide)) (by rfl) Tp.g_law_part Tp.F_law_part.kp Tp.b_law_part .nil pass0 (pa_cons (pv 1) (pa_cons pe_int pa_nil))))
      (pss_cons (ps_if (PW.pt (pw_or (pt_cmpR (op_neD hr.units) (pe_call G_add (hr.mono (by decide)) (by rfl) Tp.g_add Tp.F_add.kp Tp.b_add .nil pass0 (pa_cons (pv 3) (pa_cons (pv 4) pa_nil))) (pe_tup (pa_cons (pe_call G_law_plus (hr.mono (by decide)) (by rfl) Tp.g_law_plus Tp.F_law_plus.kp Tp.b_law_plus .nil pass0 (pa_cons (pe_ix (r := rIxT K) ix_tup (pv 3) pe_int (fun _ _ => rfl)) (pa_cons (pe_ix (r := rIxT K) ix_tup (pv 4) pe_int (fun _ _ => rfl)) pa_nil))) (pa_cons (pe_call G_law_plus (hr.mono (by decide)) (by rfl) Tp.g_law_plus Tp.F_law_plus.kp Tp.b_law_plus .nil pass0 (pa_cons (pe_ix (r := rIxT K) ix_tup (pv 3) pe_int (fun _ _ => rfl)) (pa_cons (pe_ix (r := rIxT K) ix_tup (pv 4) pe_int (fun _ _ => rfl)) pa_nil))) pa_nil))) (nomark _)) (pw_or1 (pt_cmpR (op_neD hr.units) (pe_call G_subtract (hr.mono (by decide)) (by rfl) Tp.g_subtract Tp.F_subtract.kp Tp.b_subtract .nil pass0 (pa_cons (pv 3) (pa_cons (pv 4) pa_nil))) (pe_tup (pa_cons (pe_call G_law_minus (hr.mono (by decide)) (by rfl) Tp.g_law_minus Tp.F_law_minus.kp Tp.b_law_minus .nil pass0 (pa_cons (pe_ix (r := rIxT K) ix_tup (pv 3) pe_int (fun _ _ => rfl)) (pa_cons (pe_ix (r := rIxT K) ix_tup (pv 4) pe_int (fun _ _ => rfl)) pa_nil))) (pa_cons (pe_call G_law_minus (hr.mono (by decide)) (by rfl) Tp.g_law_minus Tp.F_law_minus.kp Tp.b_law_minus .nil pass0 (pa_cons (pe_ix (r := rIxT K) ix_tup (pv 3) pe_int (fun _ _ => rfl)) (pa_cons (pe_ix (r := rIxT K) ix_tup (pv 4) pe_int (fun _ _ => rfl)) pa_nil))) pa_nil))) (nomark _))))) (pss_one (ps_ret pe_bl)) pss_nil)
      (pss_cons (ps_if (pt_cmpR (op_neD hr.units) (pe_call G_scale (hr.mono (by decide)) (by rfl) Tp.g_scale Tp.F_scale.kp Tp.b_scale .nil pass0 (pa_cons (pv 3) (pa_cons (pv 5) pa_nil))) (pe_tup (pa_cons (pe_call G_law_times (hr.mono (by decide)) (by rfl) Tp.g_law_times Tp.F_law_times.kp Tp.b_law_times .nil pass0 (pa_cons (pe_ix (r := rIxT K) ix_tup (pv 3) pe_int (fun _ _ => rfl)) (pa_cons (pv 5) pa_nil))) (pa_cons (pe_call G_law_times (hr.mono (by decide)) (by rfl) Tp.g_law_times Tp.F_law_times.kp Tp.b_law_times .nil pass0 (pa_cons (pe_ix (r := rIxT K) ix_tup (pv 3) pe_int (fun _ _ => rfl)) (pa_cons (pv 5) pa_nil))) pa_nil))) (nomark _)) (pss_one (ps_ret pe_bl)) pss_nil)
      (pss_one (ps_ret (pe_cmpR (op_eqD hr.units) (pe_call G_dot (hr.mono (by decide)) (by rfl) Tp.g_dot Tp.F_dot.kp Tp.b_dot .nil pass0 (pa_cons (pv 3) (pa_cons (pv 4) pa_nil))) (pe_call G_law_plus (hr.mono (by decide)) (by rfl) Tp.g_law_plus Tp.F_law_plus.kp Tp.b_law_plus .nil pass0 (pa_cons (pe_call G_law_times (hr.mono (by decide)) (by rfl) Tp.g_law_times Tp.F_law_times.kp Tp.b_law_times .nil pass0 (pa_cons (pe_ix (r := rIxT K) ix_tup (pv 3) pe_int (fun _ _ => rfl)) (pa_cons (pe_ix (r := rIxT K) ix_tup (pv 4) pe_int (fun _ _ => rfl)) pa_nil))) (pa_cons (pe_call G_law_times (hr.mono (by decide)) (by rfl) Tp.g_law_times Tp.F_law_times.kp Tp.b_law_times .nil pass0 (pa_cons (pe_ix (r := rIxT K) ix_tup (pv 3) pe_int (fun _ _ => rfl)) (pa_cons (pe_ix (r := rIxT K) ix_tup (pv 4) pe_int (fun _ _ => rfl)) pa_nil))) pa_nil))) (nomark _))))))))))), body_L ?_ h⟩
  refine fun ns hl => ?_
  walk_at "norm"
  refine s_begin (ns := ns) (by walk_at "ev") fun p C ok => ?_
  walk_at "norm"
  obtain ⟨o1, b1, b2⟩ := take_ok (C := C) (m := 2) ok (by decide)
  have hmost : ∃ most : Int, atI [PyData.int 5, PyData.int (10 ^ (30 : Int).toNat)] (take C 2).1 = some (.int most) ∧ 0 ≤ most ∧ most.natAbs < 2 ^ 100 := by
    by_cases c : (take C 2).1 = 0
    · rw [c]
      exact ⟨5, rfl, by decide, by decide⟩
    · have c : (take C 2).1 = 1 := by omega
      rw [c]
      exact ⟨_, rfl, by decide, by decide⟩
  obtain ⟨most, hat, h0, hz⟩ := hmost
  refine s_seq (s_asg (d := .i most) (e_ixT' (p_tup2 (by walk_at "ev"; exact ⟨by decide, by decide, by decide⟩)) (e_draw (R := RTake) (ds := [.i 2]) (C := C) (by walk_at "ev") ⟨_, rfl, ok, by decide, sz_le (m := 2) (by decide) (by decide), rfl, rfl⟩ (fun z => z)) hat)) ?_
  have hz7 : most.natAbs < 2 ^ 7000 := sz_le hz (by decide)
  obtain ⟨o2, ha1, ha2⟩ := vec_ok o1 h0 hz
  refine s_seq (s_asg (e_draw (R := RVec) (ds := [.i most]) (by walk_at "ev") ⟨_, rfl, o1, h0, hz7, rfl, rfl⟩ (fun z => z))) ?_
  obtain ⟨o3, hb1, hb2⟩ := vec_ok o2 h0 hz
  refine s_seq (s_asg (e_draw (R := RVec) (ds := [.i most]) (by walk_at "ev") ⟨_, rfl, o2, h0, hz7, rfl, rfl⟩ (fun z => z))) ?_
  obtain ⟨o4, hc⟩ := part_ok (m := 4) (n := 3) o3 (by decide) (by decide)
  refine s_seq (s_asg (e_draw (R := RPart) (ds := [.i 4]) (by walk_at "ev") ⟨_, rfl, o3, by decide, sz_le (m := 3) (by decide) (by decide), rfl, rfl⟩ (fun z => z))) ?_
  generalize (partM (vecM (vecM (take C 2).2 most).2 most).2 4).2 = C4 at *
  generalize (partM (vecM (vecM (take C 2).2 most).2 most).2 4).1 = c at *
  generalize (vecM (vecM (take C 2).2 most).2 most).1.1 = b1 at *
  generalize (vecM (vecM (take C 2).2 most).2 most).1.2 = b2 at *
  generalize (vecM (take C 2).2 most).1.1 = a1 at *
  generalize (vecM (take C 2).2 most).1.2 = a2 at *
  refine s_rtT (J := dJ K p C4 .tt) ?_
  have ea1 := lplus_eq ha1.nrm hb1.nrm
  have ea2 := lplus_eq ha2.nrm hb2.nrm
  have es1 := lminus_eq ha1.nrm hb1.nrm
  have es2 := lminus_eq ha2.nrm hb2.nrm
  have et1 := ltimes_eq ha1.nrm hc.nrm
  have et2 := ltimes_eq ha2.nrm hc.nrm
  have eu1 := ltimes_eq ha1.nrm hb1.nrm
  have eu2 := ltimes_eq ha2.nrm hb2.nrm
  have ed := lplus_eq (ok_times ha1 hb1).nrm (ok_times ha2 hb2).nrm
  refine q_skip (b := false) (t_orF (t_is (p_test (p_neD (x := .tuple [fr (plusM a1 b1), fr (plusM a2 b2)]) (y := .tuple [fr (lplus a1 b1), fr (lplus a2 b2)]) (p_call (R := RVec2 plusM) (ds := [.t [fr a1, fr a2], .t [fr b1, fr b2]]) (by walk_at "ev") (RVec2.mk ha1 ha2 hb1 hb2)) (p_tup2 (p_cons (p_call (R := RPlus lplus) (ds := [.d (fr a1), .d (fr b1)]) (by walk_at "ev") (RPlus.mk ha1 hb1)) (p_cons (p_call (R := RPlus lplus) (ds := [.d (fr a2), .d (fr b2)]) (by walk_at "ev") (RPlus.mk ha2 hb2)) a_nil))) (shaped_v _ _) (shaped_v _ _))) (by rw [ea1, ea2, eqv_v]; rfl))
    (t_is (p_test (p_neD (x := .tuple [fr (minusM a1 b1), fr (minusM a2 b2)]) (y := .tuple [fr (lminus a1 b1), fr (lminus a2 b2)]) (p_call (R := RVec2 minusM) (ds := [.t [fr a1, fr a2], .t [fr b1, fr b2]]) (by walk_at "ev") (RVec2.mk ha1 ha2 hb1 hb2)) (p_tup2 (p_cons (p_call (R := RPlus lminus) (ds := [.d (fr a1), .d (fr b1)]) (by walk_at "ev") (RPlus.mk ha1 hb1)) (p_cons (p_call (R := RPlus lminus) (ds := [.d (fr a2), .d (fr b2)]) (by walk_at "ev") (RPlus.mk ha2 hb2)) a_nil))) (shaped_v _ _) (shaped_v _ _))) (by rw [es1, es2, eqv_v]; rfl))) rfl ?_
  refine q_skip (b := false) (t_is (p_test (p_neD (x := .tuple [fr (timesM a1 c), fr (timesM a2 c)]) (y := .tuple [fr (ltimes a1 c), fr (ltimes a2 c)]) (p_call (R := RScale) (ds := [.t [fr a1, fr a2], .d (fr c)]) (by walk_at "ev") ⟨a1, a2, c, rfl, ha1.mono (by decide), ha2.mono (by decide), hc.mono (by decide), rfl⟩) (p_tup2 (p_cons (p_call (R := RPlus ltimes) (ds := [.d (fr a1), .d (fr c)]) (by walk_at "ev") (RPlus.mk ha1 hc)) (p_cons (p_call (R := RPlus ltimes) (ds := [.d (fr a2), .d (fr c)]) (by walk_at "ev") (RPlus.mk ha2 hc)) a_nil))) (shaped_v _ _) (shaped_v _ _))) (by rw [et1, et2, eqv_v]; rfl)) rfl ?_
  refine p_ret (e_is (p_eqD (x := fr (plusM (timesM a1 b1) (timesM a2 b2))) (y := fr (lplus (ltimes a1 b1) (ltimes a2 b2))) (p_call (R := RDot) (ds := [.t [fr a1, fr a2], .t [fr b1, fr b2]]) (by walk_at "ev") ⟨a1, a2, b1, b2, rfl, ha1.mono (by decide), ha2.mono (by decide), hb1.mono (by decide), hb2.mono (by decide), rfl⟩)
    (p_call (R := RPlus lplus) (p_cons (p_call (R := RPlus ltimes) (ds := [.d (fr a1), .d (fr b1)]) (by walk_at "ev") (RPlus.mk ha1 hb1)) (p_cons (p_call (R := RPlus ltimes) (ds := [.d (fr a2), .d (fr b2)]) (by walk_at "ev") (RPlus.mk ha2 hb2)) a_nil)) (by rw [eu1, eu2]; exact RPlus.mk (ok_times ha1 hb1) (ok_times ha2 hb2))) (shaped_fr _) (shaped_fr _)) (by rw [eu1, eu2, ed, eqv_fr]))
end
theorem all_mk {P : Program} {w : World} {K : PySem.W.Frag} {h : Heap} {mg : Str → Option Value} {fa : Addr} (X : K.In h) (G : h.Ns mainGlobals mg) (hfa : mg "law" = some (.ref fa))
    {f0 f1 f2 f3 f4 f5 f6 f7 f8 f9 f10 f11 f12 f13 f14 f15 f16 f17 : Addr} {od0 an0 od1 an1 od2 an2 od3 an3 od4 an4 od5 an5 od6 an6 od7 an7 od8 an8 od9 an9 od10 an10 od11 an11 od12 an12 od13 an13 od14 an14 od15 an15 od16 an16 od17 an17 : Option Addr} {sl0 sl1 sl2 sl3 sl4 sl5 sl6 sl7 sl8 sl9 sl10 sl11 sl12 sl13 sl14 sl15 sl16 sl17 : Array (Option Value)} {oc0 kV0 dc0 pm0 cd0 ct0 oc1 kV1 dc1 pm1 cd1 ct1 oc2 kV2 dc2 pm2 cd2 ct2 oc3 kV3 dc3 pm3 cd3 ct3 oc4 kV4 dc4 pm4 cd4 ct4 oc5 kV5 dc5 pm5 cd5 ct5 oc6 kV6 dc6 pm6 cd6 ct6 oc7 kV7 dc7 pm7 cd7 ct7 oc8 kV8 dc8 pm8 cd8 ct8 oc9 kV9 dc9 pm9 cd9 ct9 oc10 kV10 dc10 pm10 cd10 ct10 oc11 kV11 dc11 pm11 cd11 ct11 oc12 kV12 dc12 pm12 cd12 ct12 oc13 kV13 dc13 pm13 cd13 ct13 oc14 kV14 dc14 pm14 cd14 ct14 oc15 kV15 dc15 pm15 cd15 ct15 oc16 kV16 dc16 pm16 cd16 ct16 oc17 kV17 dc17 pm17 cd17 ct17 : Value}
    (a0 : PySem.W.nsIn K mainGlobals "plus" = some (some (.ref f0))) (l0 : K.lookup f0 = some ⟨oc0, od0, .func (PySem.W.fnOf "plus" "plus" (defArgs s_plus) (defBody s_plus) (defScope s_plus) .none kV0 dc0 pm0 an0 cd0 ct0), sl0⟩) (c0 : PySem.W.codeIn K cd0 "plus" = true) (k0 : PySem.W.keepIn K (.ref f0) = true)
    (a1 : PySem.W.nsIn K mainGlobals "minus" = some (some (.ref f1))) (l1 : K.lookup f1 = some ⟨oc1, od1, .func (PySem.W.fnOf "minus" "minus" (defArgs s_minus) (defBody s_minus) (defScope s_minus) .none kV1 dc1 pm1 an1 cd1 ct1), sl1⟩) (c1 : PySem.W.codeIn K cd1 "minus" = true) (k1 : PySem.W.keepIn K (.ref f1) = true)
    (a2 : PySem.W.nsIn K mainGlobals "times" = some (some (.ref f2))) (l2 : K.lookup f2 = some ⟨oc2, od2, .func (PySem.W.fnOf "times" "times" (defArgs s_times) (defBody s_times) (defScope s_times) .none kV2 dc2 pm2 an2 cd2 ct2), sl2⟩) (c2 : PySem.W.codeIn K cd2 "times" = true) (k2 : PySem.W.keepIn K (.ref f2) = true)
    (a3 : PySem.W.nsIn K mainGlobals "add" = some (some (.ref f3))) (l3 : K.lookup f3 = some ⟨oc3, od3, .func (PySem.W.fnOf "add" "add" (defArgs s_add) (defBody s_add) (defScope s_add) .none kV3 dc3 pm3 an3 cd3 ct3), sl3⟩) (c3 : PySem.W.codeIn K cd3 "add" = true) (k3 : PySem.W.keepIn K (.ref f3) = true)
    (a4 : PySem.W.nsIn K mainGlobals "subtract" = some (some (.ref f4))) (l4 : K.lookup f4 = some ⟨oc4, od4, .func (PySem.W.fnOf "subtract" "subtract" (defArgs s_subtract) (defBody s_subtract) (defScope s_subtract) .none kV4 dc4 pm4 an4 cd4 ct4), sl4⟩) (c4 : PySem.W.codeIn K cd4 "subtract" = true) (k4 : PySem.W.keepIn K (.ref f4) = true)
    (a5 : PySem.W.nsIn K mainGlobals "scale" = some (some (.ref f5))) (l5 : K.lookup f5 = some ⟨oc5, od5, .func (PySem.W.fnOf "scale" "scale" (defArgs s_scale) (defBody s_scale) (defScope s_scale) .none kV5 dc5 pm5 an5 cd5 ct5), sl5⟩) (c5 : PySem.W.codeIn K cd5 "scale" = true) (k5 : PySem.W.keepIn K (.ref f5) = true)
    (a6 : PySem.W.nsIn K mainGlobals "dot" = some (some (.ref f6))) (l6 : K.lookup f6 = some ⟨oc6, od6, .func (PySem.W.fnOf "dot" "dot" (defArgs s_dot) (defBody s_dot) (defScope s_dot) .none kV6 dc6 pm6 an6 cd6 ct6), sl6⟩) (c6 : PySem.W.codeIn K cd6 "dot" = true) (k6 : PySem.W.keepIn K (.ref f6) = true)
    (a7 : PySem.W.nsIn K mainGlobals "_law_begin" = some (some (.ref f7))) (l7 : K.lookup f7 = some ⟨oc7, od7, .func (PySem.W.fnOf "_law_begin" "_law_begin" (defArgs s_law_begin) (defBody s_law_begin) (defScope s_law_begin) .none kV7 dc7 pm7 an7 cd7 ct7), sl7⟩) (c7 : PySem.W.codeIn K cd7 "_law_begin" = true) (k7 : PySem.W.keepIn K (.ref f7) = true)
    (a8 : PySem.W.nsIn K mainGlobals "_law_take" = some (some (.ref f8))) (l8 : K.lookup f8 = some ⟨oc8, od8, .func (PySem.W.fnOf "_law_take" "_law_take" (defArgs s_law_take) (defBody s_law_take) (defScope s_law_take) .none kV8 dc8 pm8 an8 cd8 ct8), sl8⟩) (c8 : PySem.W.codeIn K cd8 "_law_take" = true) (k8 : PySem.W.keepIn K (.ref f8) = true)
    (a9 : PySem.W.nsIn K mainGlobals "_law_signed" = some (some (.ref f9))) (l9 : K.lookup f9 = some ⟨oc9, od9, .func (PySem.W.fnOf "_law_signed" "_law_signed" (defArgs s_law_signed) (defBody s_law_signed) (defScope s_law_signed) .none kV9 dc9 pm9 an9 cd9 ct9), sl9⟩) (c9 : PySem.W.codeIn K cd9 "_law_signed" = true) (k9 : PySem.W.keepIn K (.ref f9) = true)
    (a10 : PySem.W.nsIn K mainGlobals "_law_gcd" = some (some (.ref f10))) (l10 : K.lookup f10 = some ⟨oc10, od10, .func (PySem.W.fnOf "_law_gcd" "_law_gcd" (defArgs s_law_gcd) (defBody s_law_gcd) (defScope s_law_gcd) .none kV10 dc10 pm10 an10 cd10 ct10), sl10⟩) (c10 : PySem.W.codeIn K cd10 "_law_gcd" = true) (k10 : PySem.W.keepIn K (.ref f10) = true)
    (a11 : PySem.W.nsIn K mainGlobals "_law_f" = some (some (.ref f11))) (l11 : K.lookup f11 = some ⟨oc11, od11, .func (PySem.W.fnOf "_law_f" "_law_f" (defArgs s_law_f) (defBody s_law_f) (defScope s_law_f) .none kV11 dc11 pm11 an11 cd11 ct11), sl11⟩) (c11 : PySem.W.codeIn K cd11 "_law_f" = true) (k11 : PySem.W.keepIn K (.ref f11) = true)
    (a12 : PySem.W.nsIn K mainGlobals "_law_plus" = some (some (.ref f12))) (l12 : K.lookup f12 = some ⟨oc12, od12, .func (PySem.W.fnOf "_law_plus" "_law_plus" (defArgs s_law_plus) (defBody s_law_plus) (defScope s_law_plus) .none kV12 dc12 pm12 an12 cd12 ct12), sl12⟩) (c12 : PySem.W.codeIn K cd12 "_law_plus" = true) (k12 : PySem.W.keepIn K (.ref f12) = true)
    (a13 : PySem.W.nsIn K mainGlobals "_law_minus" = some (some (.ref f13))) (l13 : K.lookup f13 = some ⟨oc13, od13, .func (PySem.W.fnOf "_law_minus" "_law_minus" (defArgs s_law_minus) (defBody s_law_minus) (defScope s_law_minus) .none kV13 dc13 pm13 an13 cd13 ct13), sl13⟩) (c13 : PySem.W.codeIn K cd13 "_law_minus" = true) (k13 : PySem.W.keepIn K (.ref f13) = true)
    (a14 : PySem.W.nsIn K mainGlobals "_law_times" = some (some (.ref f14))) (l14 : K.lookup f14 = some ⟨oc14, od14, .func (PySem.W.fnOf "_law_times" "_law_times" (defArgs s_law_times) (defBody s_law_times) (defScope s_law_times) .none kV14 dc14 pm14 an14 cd14 ct14), sl14⟩) (c14 : PySem.W.codeIn K cd14 "_law_times" = true) (k14 : PySem.W.keepIn K (.ref f14) = true)
    (a15 : PySem.W.nsIn K mainGlobals "_law_part" = some (some (.ref f15))) (l15 : K.lookup f15 = some ⟨oc15, od15, .func (PySem.W.fnOf "_law_part" "_law_part" (defArgs s_law_part) (defBody s_law_part) (defScope s_law_part) .none kV15 dc15 pm15 an15 cd15 ct15), sl15⟩) (c15 : PySem.W.codeIn K cd15 "_law_part" = true) (k15 : PySem.W.keepIn K (.ref f15) = true)
    (a16 : PySem.W.nsIn K mainGlobals "_law_vector" = some (some (.ref f16))) (l16 : K.lookup f16 = some ⟨oc16, od16, .func (PySem.W.fnOf "_law_vector" "_law_vector" (defArgs s_law_vector) (defBody s_law_vector) (defScope s_law_vector) .none kV16 dc16 pm16 an16 cd16 ct16), sl16⟩) (c16 : PySem.W.codeIn K cd16 "_law_vector" = true) (k16 : PySem.W.keepIn K (.ref f16) = true)
    (a17 : PySem.W.nsIn K mainGlobals "law" = some (some (.ref f17))) (l17 : K.lookup f17 = some ⟨oc17, od17, .func (PySem.W.fnOf "law" "law" (defArgs s_law) (defBody s_law) (defScope s_law) .none kV17 dc17 pm17 an17 cd17 ct17), sl17⟩) (c17 : PySem.W.codeIn K cd17 "law" = true) (k17 : PySem.W.keepIn K (.ref f17) = true)
    (z_abs : PySem.W.nsIn K mainGlobals "abs" = some none)
    (z_int : PySem.W.nsIn K mainGlobals "int" = some none)
    (z_len : PySem.W.nsIn K mainGlobals "len" = some none)
    (z_list : PySem.W.nsIn K mainGlobals "list" = some none)
    (z_gcd : PySem.W.nsIn K mainGlobals "gcd" = some (some (.builtin "math.gcd"))) :
    ∃ fd : FuncData, (∀ (s : Shared) (v : Value), BindsTo s fd ⟨[v], []⟩ [("script", v)]) ∧ ∀ base : Heap, K.In base → base.Ns mainGlobals mg → FnOk P w K mg base CX0 5 fa fd ["script"] (spLaw K) := by
  have e := hfa.symm.trans (PySem.W.mg_of X G a17)
  have e : fa = f17 := by cases e; rfl
  have F0 := fun_mk (st := s_plus) l0 c0 k0
  have b0 := F0.binds (ps := ["a", "b"]) fun _ _ _ _ _ _ us hl => match us, hl with | [_, _], _ => rfl
  have F1 := fun_mk (st := s_minus) l1 c1 k1
  have b1 := F1.binds (ps := ["a", "b"]) fun _ _ _ _ _ _ us hl => match us, hl with | [_, _], _ => rfl
  have F2 := fun_mk (st := s_times) l2 c2 k2
  have b2 := F2.binds (ps := ["a", "b"]) fun _ _ _ _ _ _ us hl => match us, hl with | [_, _], _ => rfl
  have F3 := fun_mk (st := s_add) l3 c3 k3
  have b3 := F3.binds (ps := ["a", "b"]) fun _ _ _ _ _ _ us hl => match us, hl with | [_, _], _ => rfl
  have F4 := fun_mk (st := s_subtract) l4 c4 k4
  have b4 := F4.binds (ps := ["a", "b"]) fun _ _ _ _ _ _ us hl => match us, hl with | [_, _], _ => rfl
  have F5 := fun_mk (st := s_scale) l5 c5 k5
  have b5 := F5.binds (ps := ["a", "factor"]) fun _ _ _ _ _ _ us hl => match us, hl with | [_, _], _ => rfl
  have F6 := fun_mk (st := s_dot) l6 c6 k6
  have b6 := F6.binds (ps := ["a", "b"]) fun _ _ _ _ _ _ us hl => match us, hl with | [_, _], _ => rfl
  have F7 := fun_mk (st := s_law_begin) l7 c7 k7
  have b7 := F7.binds (ps := ["script"]) fun _ _ _ _ _ _ us hl => match us, hl with | [_], _ => rfl
  have F8 := fun_mk (st := s_law_take) l8 c8 k8
  have b8 := F8.binds (ps := ["d", "many"]) fun _ _ _ _ _ _ us hl => match us, hl with | [_, _], _ => rfl
  have F9 := fun_mk (st := s_law_signed) l9 c9 k9
  have b9 := F9.binds (ps := ["d", "most"]) fun _ _ _ _ _ _ us hl => match us, hl with | [_, _], _ => rfl
  have F10 := fun_mk (st := s_law_gcd) l10 c10 k10
  have b10 := F10.binds (ps := ["a", "b"]) fun _ _ _ _ _ _ us hl => match us, hl with | [_, _], _ => rfl
  have F11 := fun_mk (st := s_law_f) l11 c11 k11
  have b11 := F11.binds (ps := ["a", "b"]) fun _ _ _ _ _ _ us hl => match us, hl with | [_, _], _ => rfl
  have F12 := fun_mk (st := s_law_plus) l12 c12 k12
  have b12 := F12.binds (ps := ["a", "b"]) fun _ _ _ _ _ _ us hl => match us, hl with | [_, _], _ => rfl
  have F13 := fun_mk (st := s_law_minus) l13 c13 k13
  have b13 := F13.binds (ps := ["a", "b"]) fun _ _ _ _ _ _ us hl => match us, hl with | [_, _], _ => rfl
  have F14 := fun_mk (st := s_law_times) l14 c14 k14
  have b14 := F14.binds (ps := ["a", "b"]) fun _ _ _ _ _ _ us hl => match us, hl with | [_, _], _ => rfl
  have F15 := fun_mk (st := s_law_part) l15 c15 k15
  have b15 := F15.binds (ps := ["d", "most"]) fun _ _ _ _ _ _ us hl => match us, hl with | [_, _], _ => rfl
  have F16 := fun_mk (st := s_law_vector) l16 c16 k16
  have b16 := F16.binds (ps := ["d", "most"]) fun _ _ _ _ _ _ us hl => match us, hl with | [_, _], _ => rfl
  have F17 := fun_mk (st := s_law) l17 c17 k17
  have b17 := F17.binds (ps := ["script"]) fun _ _ _ _ _ _ us hl => match us, hl with | [_], _ => rfl
  refine ⟨PySem.W.fnOf "law" "law" (defArgs s_law) (defBody s_law) (defScope s_law) .none kV17 dc17 pm17 an17 cd17 ct17, fun s v => .of_eq rfl, fun base _ _ => ?_⟩
  let Tp : Top K mg base := {
    f_plus := f0, d_plus := _, F_plus := F0, g_plus := PySem.W.mg_of X G a0, b_plus := b0,
    f_minus := f1, d_minus := _, F_minus := F1, g_minus := PySem.W.mg_of X G a1, b_minus := b1,
    f_times := f2, d_times := _, F_times := F2, g_times := PySem.W.mg_of X G a2, b_times := b2,
    f_add := f3, d_add := _, F_add := F3, g_add := PySem.W.mg_of X G a3, b_add := b3,
    f_subtract := f4, d_subtract := _, F_subtract := F4, g_subtract := PySem.W.mg_of X G a4, b_subtract := b4,
    f_scale := f5, d_scale := _, F_scale := F5, g_scale := PySem.W.mg_of X G a5, b_scale := b5,
    f_dot := f6, d_dot := _, F_dot := F6, g_dot := PySem.W.mg_of X G a6, b_dot := b6,
    f_law_begin := f7, d_law_begin := _, F_law_begin := F7, g_law_begin := PySem.W.mg_of X G a7, b_law_begin := b7,
    f_law_take := f8, d_law_take := _, F_law_take := F8, g_law_take := PySem.W.mg_of X G a8, b_law_take := b8,
    f_law_signed := f9, d_law_signed := _, F_law_signed := F9, g_law_signed := PySem.W.mg_of X G a9, b_law_signed := b9,
    f_law_gcd := f10, d_law_gcd := _, F_law_gcd := F10, g_law_gcd := PySem.W.mg_of X G a10, b_law_gcd := b10,
    f_law_f := f11, d_law_f := _, F_law_f := F11, g_law_f := PySem.W.mg_of X G a11, b_law_f := b11,
    f_law_plus := f12, d_law_plus := _, F_law_plus := F12, g_law_plus := PySem.W.mg_of X G a12, b_law_plus := b12,
    f_law_minus := f13, d_law_minus := _, F_law_minus := F13, g_law_minus := PySem.W.mg_of X G a13, b_law_minus := b13,
    f_law_times := f14, d_law_times := _, F_law_times := F14, g_law_times := PySem.W.mg_of X G a14, b_law_times := b14,
    f_law_part := f15, d_law_part := _, F_law_part := F15, g_law_part := PySem.W.mg_of X G a15, b_law_part := b15,
    f_law_vector := f16, d_law_vector := _, F_law_vector := F16, g_law_vector := PySem.W.mg_of X G a16, b_law_vector := b16,
    f_law := f17, d_law := _, F_law := F17, g_law := PySem.W.mg_of X G a17, b_law := b17,
    n_abs := PySem.W.mg_none_of X G z_abs, n_int := PySem.W.mg_none_of X G z_int, n_len := PySem.W.mg_none_of X G z_len, n_list := PySem.W.mg_none_of X G z_list, n_gcd := PySem.W.mg_of X G z_gcd }
  rw [e]
  exact fok_law (P := P) (w := w) (base := base) Tp
end W
open PySem PySem.W PyProof.Rows
set_option maxHeartbeats 0 in
theorem PySem.Challenge.cw_steadybodies_k03_vectors_holds : PySem.Challenge.rw_steadybodies_k03_vectors.Holds := by
  w_on; o_law; k_head; (case hw => w_witness2)
  k_fill
  refine L2.walk_of (l := PySem.Challenge.rw_steadybodies_k03_vectors) (n := 63) (k := 5) (x := "script") (CX := fun _ => L2.CX0) (sp := fun w => PL.spLaw _) rfl (by decide) rfl ⟨rfl, by decide, by decide⟩ (fun w h Y => PySem.W.kIn_of Y) ?F (fun _ _ a ns hl _ hS => ⟨a, ns, rfl, hS, hl, fun _ => rfl⟩) (fun _ _ _ _ _ h => h)
  case F =>
    intro w mg fa h KX G hmg
    refine' W.all_mk KX G hmg ?a0 ?l0 ?c0 ?k0 ?a1 ?l1 ?c1 ?k1 ?a2 ?l2 ?c2 ?k2 ?a3 ?l3 ?c3 ?k3 ?a4 ?l4 ?c4 ?k4 ?a5 ?l5 ?c5 ?k5 ?a6 ?l6 ?c6 ?k6 ?a7 ?l7 ?c7 ?k7 ?a8 ?l8 ?c8 ?k8 ?a9 ?l9 ?c9 ?k9 ?a10 ?l10 ?c10 ?k10 ?a11 ?l11 ?c11 ?k11 ?a12 ?l12 ?c12 ?k12 ?a13 ?l13 ?c13 ?k13 ?a14 ?l14 ?c14 ?k14 ?a15 ?l15 ?c15 ?k15 ?a16 ?l16 ?c16 ?k16 ?a17 ?l17 ?c17 ?k17 ?z_abs ?z_int ?z_len ?z_list ?z_gcd
    (case a0 => k_is); (case l0 => k_is); (case c0 => k_is); (case k0 => k_is); (case a1 => k_is); (case l1 => k_is); (case c1 => k_is); (case k1 => k_is); (case a2 => k_is); (case l2 => k_is); (case c2 => k_is); (case k2 => k_is); (case a3 => k_is); (case l3 => k_is); (case c3 => k_is); (case k3 => k_is); (case a4 => k_is); (case l4 => k_is); (case c4 => k_is); (case k4 => k_is); (case a5 => k_is); (case l5 => k_is); (case c5 => k_is); (case k5 => k_is); (case a6 => k_is); (case l6 => k_is); (case c6 => k_is); (case k6 => k_is); (case a7 => k_is); (case l7 => k_is); (case c7 => k_is); (case k7 => k_is); (case a8 => k_is); (case l8 => k_is); (case c8 => k_is); (case k8 => k_is); (case a9 => k_is); (case l9 => k_is); (case c9 => k_is); (case k9 => k_is); (case a10 => k_is); (case l10 => k_is); (case c10 => k_is); (case k10 => k_is); (case a11 => k_is); (case l11 => k_is); (case c11 => k_is); (case k11 => k_is); (case a12 => k_is); (case l12 => k_is); (case c12 => k_is); (case k12 => k_is); (case a13 => k_is); (case l13 => k_is); (case c13 => k_is); (case k13 => k_is); (case a14 => k_is); (case l14 => k_is); (case c14 => k_is); (case k14 => k_is); (case a15 => k_is); (case l15 => k_is); (case c15 => k_is); (case k15 => k_is); (case a16 => k_is); (case l16 => k_is); (case c16 => k_is); (case k16 => k_is); (case a17 => k_is); (case l17 => k_is); (case c17 => k_is); (case k17 => k_is); (case z_abs => k_is); (case z_int => k_is); (case z_len => k_is); (case z_list => k_is); (case z_gcd => k_is)

