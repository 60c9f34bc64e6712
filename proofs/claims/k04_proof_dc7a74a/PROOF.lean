import PyProof.Rows.All
import Wide.All
import OpenK.AllK
import Wide.FinOn
import HandS.ForMost
import HandS.Conv
import HandS.Walk
import HandS.FStrTup
import HandS.IsInst
import HandS.TupAny
import HandS.Zip
import PySem.Challenge.RW_ringwindows_k04_rules_turned_and_mirrore
set_option Elab.async false
set_option linter.all false
set_option maxRecDepth 100000
set_option maxHeartbeats 4000000
/-! The data layer: what a body does, told over data (PyData) alone. -/
namespace DL
open PySem PySem.Spec PyProof.Rows L2

/-- what a slot holds: data, the law's deck, a list that this frame alone knows -/
inductive Vl where
  | dat (d : PyData)
  | deck
  | own (l : List PyData)

abbrev Ev := List (Option Vl)
structure Gh where
  F : Hp
  dk : Option (Addr × Addr)
def isDk (g : Gh) (a : Addr) : Prop := ∃ p q, g.dk = some (p, q) ∧ (a = p ∨ a = q)
structure Mo (g g' : Gh) : Prop where
  f : Same g.F g'.F
  d : g'.dk = g.dk
theorem Mo.refl (g : Gh) : Mo g g := ⟨Same.refl _, rfl⟩
theorem Mo.trans {a b c : Gh} (x : Mo a b) (y : Mo b c) : Mo a c := ⟨x.f.trans y.f, y.d.trans x.d⟩
/-- a step of an expression: new data, the deck drawn from, all else as it was -/
structure Mv (g : Gh) (H : Hp) (g' : Gh) (H' : Hp) : Prop extends Mo g g' where
  fr : ∀ a o, H a = some o → ¬ isDk g a → H' a = some o
  lv : ∀ a o, H a = some o → ∃ o', H' a = some o'
  nf : ∀ a o, g'.F a = some o → g.F a = some o ∨ H a = none
theorem Mv.refl (g : Gh) (H : Hp) : Mv g H g H := ⟨Mo.refl g, fun _ _ e _ => e, fun _ o e => ⟨o, e⟩, fun _ _ e => .inl e⟩
theorem Mv.trans {a b c : Gh} {H H1 H2 : Hp} (x : Mv a H b H1) (y : Mv b H1 c H2) : Mv a H c H2 := by
  refine ⟨x.toMo.trans y.toMo, fun p o e n => y.fr p o (x.fr p o e n) fun z => n ?_, fun p o e => ?_, fun p o e => ?_⟩
  · obtain ⟨u, v, h, k⟩ := z
    exact ⟨u, v, x.d.symm.trans h, k⟩
  · obtain ⟨o1, e1⟩ := x.lv p o e
    exact y.lv p o1 e1
  · rcases y.nf p o e with h | h
    · exact x.nf p o h
    · right
      cases q : H p with
      | none => rfl
      | some o2 =>
        obtain ⟨o1, e1⟩ := x.lv p o2 q
        rw [h] at e1
        cases e1
theorem Mo.isDk {g g' : Gh} (m : Mo g g') {a : Addr} (h : isDk g' a) : isDk g a := by
  obtain ⟨p, q, e, z⟩ := h
  exact ⟨p, q, by rw [← m.d]; exact e, z⟩

theorem seqT {K : PySem.W.Frag} {H H' : Hp} {a : Addr} {xs : List V} (e : Same H H') (h : SqT K H a xs) : SqT K H' a xs := by
  rcases h with (h | ⟨o, h⟩) | h
  · exact .inl (.inl (e _ _ h))
  · exact .inl (.inr ⟨o, e _ _ h⟩)
  · exact .inr h
mutual
theorem dp_mono {K : PySem.W.Frag} {H H' : Hp} (e : Same H H') : ∀ {v : V} {d : PyData}, Dp K H v d → Dp K H' v d
  | _, _, .non => .non
  | _, _, .bl b => .bl b
  | _, _, .int i => .int i
  | _, _, .str x => .str x
  | _, _, .lst s a => .lst (e.seq s) (dpAll_mono e a)
  | _, _, .tup s a => .tup (seqT e s) (dpAll_mono e a)
theorem dpAll_mono {K : PySem.W.Frag} {H H' : Hp} (e : Same H H') : ∀ {vs : List V} {ds : List PyData}, DpAll K H vs ds → DpAll K H' vs ds
  | _, _, .nil => .nil
  | _, _, .cons h t => .cons (dp_mono e h) (dpAll_mono e t)
end
theorem DpAll.len {K : PySem.W.Frag} {H : Hp} : ∀ {vs : List V} {ds : List PyData}, DpAll K H vs ds → vs.length = ds.length
  | _, _, .nil => rfl
  | _, _, .cons _ t => by simp [DpAll.len t]
theorem DpAll.get {K : PySem.W.Frag} {H : Hp} : ∀ {vs : List V} {ds : List PyData} {i : Nat} {d : PyData}, DpAll K H vs ds → ds[i]? = some d → ∃ v, vs[i]? = some v ∧ Dp K H v d
  | _, _, _, _, .nil, h => by simp at h
  | _, _, 0, _, .cons h _, e => by
    simp at e
    subst e
    exact ⟨_, rfl, h⟩
  | _, _, i + 1, d, .cons _ t, e => by
    obtain ⟨v, h1, h2⟩ := DpAll.get (i := i) (d := d) t (by simpa using e)
    exact ⟨v, by simpa using h1, h2⟩
theorem DpAll.getV {K : PySem.W.Frag} {H : Hp} : ∀ {vs : List V} {ds : List PyData} {i : Nat} {v : V}, DpAll K H vs ds → vs[i]? = some v → ∃ d, ds[i]? = some d ∧ Dp K H v d
  | _, _, _, _, .nil, h => by simp at h
  | _, _, 0, _, .cons h _, e => by
    simp at e
    subst e
    exact ⟨_, rfl, h⟩
  | _, _, i + 1, v, .cons _ t, e => by
    obtain ⟨d, h1, h2⟩ := DpAll.getV (i := i) (v := v) t (by simpa using e)
    exact ⟨d, by simpa using h1, h2⟩
theorem DpAll.app {K : PySem.W.Frag} {H : Hp} : ∀ {vs ws : List V} {ds es : List PyData}, DpAll K H vs ds → DpAll K H ws es → DpAll K H (vs ++ ws) (ds ++ es)
  | _, _, _, _, .nil, t => t
  | _, _, _, _, .cons h r, t => .cons h (DpAll.app r t)
theorem DpAll.take {K : PySem.W.Frag} {H : Hp} : ∀ {vs : List V} {ds : List PyData} (n : Nat), DpAll K H vs ds → DpAll K H (vs.take n) (ds.take n)
  | _, _, 0, _ => .nil
  | _, _, _ + 1, .nil => .nil
  | _, _, n + 1, .cons h t => .cons h (DpAll.take n t)
theorem DpAll.drop {K : PySem.W.Frag} {H : Hp} : ∀ {vs : List V} {ds : List PyData} (n : Nat), DpAll K H vs ds → DpAll K H (vs.drop n) (ds.drop n)
  | _, _, 0, r => r
  | _, _, _ + 1, .nil => .nil
  | _, _, n + 1, .cons _ t => DpAll.drop n t
theorem DpAll.setV {K : PySem.W.Frag} {H : Hp} {v : V} {d : PyData} (h : Dp K H v d) : ∀ {vs : List V} {ds : List PyData} (i : Nat), DpAll K H vs ds → DpAll K H (vs.set i v) (ds.set i d)
  | _, _, _, .nil => .nil
  | _, _, 0, .cons _ t => .cons h t
  | _, _, i + 1, .cons q t => .cons q (DpAll.setV h i t)

/-- the deck: [[cells], count] -/
def DeckOk (g : Gh) (H : Hp) (c : Nat) : Prop := ∀ p q, g.dk = some (p, q) → p ≠ q ∧ g.F p = none ∧ g.F q = none ∧
  ∃ ns : List Int, (∀ n ∈ ns, 0 ≤ n) ∧ ns.length ≤ 63 ∧ H q = some (.lst (ns.map V.int)) ∧ H p = some (.lst [.ref q, .int (c : Int)])
def VOk (K : PySem.W.Frag) (g : Gh) (H : Hp) (v : V) : Vl → Prop
  | .dat d => Dp K g.F v d
  | .deck => ∃ p q, g.dk = some (p, q) ∧ v = .ref p
  | .own l => ∃ a xs, v = .ref a ∧ g.F a = none ∧ ¬ isDk g a ∧ H a = some (.lst xs) ∧ DpAll K g.F xs l
/-- the entry of a frame; top: the law's own frame, where the deck is made -/
structure En where
  g : Gh
  H : Hp
  top : Bool
structure Rel (K : PySem.W.Frag) (E : En) (g : Gh) (env : Ev) (c : Nat) (σ : L2.St) (H : Hp) : Prop where
  mo : Same E.g.F g.F
  md : E.top = false → g.dk = E.g.dk
  mt : E.top = true → E.g.dk = none
  dn : ∀ a, isDk g a → isDk E.g a ∨ E.H a = none
  nf : ∀ a o, g.F a = some o → E.g.F a = some o ∨ E.H a = none
  fr : ∀ a o, E.H a = some o → ¬ isDk E.g a → H a = some o
  nw : ∀ (i : Nat) (l : List PyData), env[i]? = some (some (Vl.own l)) → ∀ a : Addr, σ[i]? = some (some (V.ref a)) → E.H a = none
  ex : Same g.F H
  sl : ∀ (i : Nat) (x : Vl), env[i]? = some (some x) → ∃ v, σ[i]? = some (some v) ∧ VOk K g H v x
  ap : ∀ (i j : Nat) (li lj : List PyData) (a : Addr), i ≠ j → env[i]? = some (some (Vl.own li)) → env[j]? = some (some (Vl.own lj)) → σ[i]? = some (some (V.ref a)) → σ[j]? ≠ some (some (V.ref a))
  dk : DeckOk g H c
  len : env.length = σ.length

section
variable {K : PySem.W.Frag} {E : En} {g g' : Gh} {env : Ev} {c : Nat} {σ : L2.St} {H H' : Hp}
theorem Rel.deckLive (r : Rel K E g env c σ H) {a : Addr} (h : isDk g a) : ∃ o, H a = some o := by
  obtain ⟨p, q, e, z⟩ := h
  obtain ⟨_, _, _, ns, _, _, hq, hp⟩ := r.dk p q e
  rcases z with rfl | rfl
  · exact ⟨_, hp⟩
  · exact ⟨_, hq⟩
theorem Rel.old (r : Rel K E g env c σ H) {a : Addr} {o : HO} (h : E.H a = some o) : ∃ o', H a = some o' := by
  by_cases hd : isDk E.g a
  · cases ht : E.top with
    | true =>
      obtain ⟨p, q, e, _⟩ := hd
      rw [r.mt ht] at e
      cases e
    | false =>
      obtain ⟨p, q, e, z⟩ := hd
      exact r.deckLive ⟨p, q, by rw [r.md ht]; exact e, z⟩
  · exact ⟨o, r.fr a o h hd⟩
theorem Rel.oldN (r : Rel K E g env c σ H) {a : Addr} (h : H a = none) : E.H a = none := by
  cases q : E.H a with
  | none => rfl
  | some o =>
    obtain ⟨o', e⟩ := r.old q
    rw [h] at e
    cases e
/-- a new object, known to the data from now on -/
theorem Rel.new (r : Rel K E g env c σ H) {p : Addr} (o : HO) (hp : H p = none) : Rel K E ⟨upd g.F p o, g.dk⟩ env c σ (upd H p o) ∧ Mv g H ⟨upd g.F p o, g.dk⟩ (upd H p o) := by
  have hF : g.F p = none := r.ex.free hp
  have sF : Same g.F (upd g.F p o) := fun b x e => by
    rw [upd_ne (ne_of_none e hF)]
    exact e
  have nd : ¬ isDk g p := fun h => by
    obtain ⟨o', e⟩ := r.deckLive h
    rw [hp] at e
    cases e
  refine ⟨⟨r.mo.trans sF, r.md, r.mt, r.dn, fun a x e => ?_, fun a x e n => ?_, r.nw, fun b x e => ?_, fun i x e => ?_, r.ap, fun a b e => ?_, r.len⟩, ⟨⟨sF, rfl⟩, fun a x e _ => ?_, fun a x e => ⟨x, ?_⟩, fun a x e => ?_⟩⟩
  · have e : upd g.F p o a = some x := e
    by_cases ha : a = p
    · exact .inr (by rw [ha]; exact r.oldN hp)
    · rw [upd_ne ha] at e
      exact r.nf a x e
  · have q := r.fr a x e n
    rw [upd_ne (ne_of_none q hp)]
    exact q
  · have e : upd g.F p o b = some x := e
    by_cases hb : b = p
    · subst hb
      rw [upd_same] at e ⊢
      exact e
    · rw [upd_ne hb] at e ⊢
      exact r.ex b x e
  · obtain ⟨v, h1, h2⟩ := r.sl i x e
    refine ⟨v, h1, ?_⟩
    cases x with
    | dat d => exact dp_mono sF h2
    | deck => exact h2
    | own l =>
      obtain ⟨a, xs, rfl, h3, h4, h5, h6⟩ := h2
      have ne : a ≠ p := ne_of_none h5 hp
      refine ⟨a, xs, rfl, ?_, h4, ?_, dpAll_mono sF h6⟩
      · show upd g.F p o a = none
        rw [upd_ne ne]
        exact h3
      · rw [upd_ne ne]
        exact h5
  · obtain ⟨h1, h2, h3, ns, h4, h5, h6, h7⟩ := r.dk a b e
    have na : a ≠ p := ne_of_none h7 hp
    have nb : b ≠ p := ne_of_none h6 hp
    refine ⟨h1, ?_, ?_, ns, h4, h5, ?_, ?_⟩
    · show upd g.F p o a = none
      rw [upd_ne na]
      exact h2
    · show upd g.F p o b = none
      rw [upd_ne nb]
      exact h3
    · rw [upd_ne nb]
      exact h6
    · rw [upd_ne na]
      exact h7
  · rw [upd_ne (ne_of_none e hp)]
    exact e
  · rw [upd_ne (ne_of_none e hp)]
    exact e
  · have e : upd g.F p o a = some x := e
    by_cases ha : a = p
    · exact .inr (by rw [ha]; exact hp)
    · rw [upd_ne ha] at e
      exact .inl e
end

/-! ### readings over data -/
abbrev DE := Ev → Nat → (Vl → Nat → Prop) → Prop
abbrev DT := Ev → Nat → (Bool → Nat → Prop) → Prop
abbrev DA := Ev → Nat → (List Vl → Nat → Prop) → Prop
abbrev DI := Ev → Nat → (List PyData → Nat → Prop) → Prop
abbrev DG := Vl → Ev → (Ev → Prop) → Prop
abbrev DGs := List PyData → Ev → (Ev → Prop) → Prop
/-- the slots ws may have changed -/
def Ag (ws : List Nat) (σ σ' : L2.St) : Prop := σ'.length = σ.length ∧ ∀ i, i ∉ ws → σ'[i]? = σ[i]?
structure DEnds where
  nx : Ev → Nat → Prop
  rt : Vl → Nat → Prop
  bk : Ev → Nat → Prop
  ct : Ev → Nat → Prop
abbrev DS := DEnds → Ev → Nat → Prop

def VOks (K : PySem.W.Frag) (g : Gh) (H : Hp) : List V → List Vl → Prop
  | [], [] => True
  | v :: vs, x :: xs => VOk K g H v x ∧ VOks K g H vs xs
  | _, _ => False
/-- a value that goes from hand to hand -/
def free : Vl → Prop
  | .own _ => False
  | _ => True
theorem VOk.mono {K : PySem.W.Frag} {g g' : Gh} {H H' : Hp} {v : V} {x : Vl} (m : Mo g g') (hf : free x) (h : VOk K g H v x) : VOk K g' H' v x := by
  cases x with
  | dat d => exact dp_mono m.f h
  | deck =>
    obtain ⟨p, q, e, z⟩ := h
    exact ⟨p, q, by rw [m.d]; exact e, z⟩
  | own l => exact hf.elim

section
variable (K : PySem.W.Frag) (E : En)
def up (dt : DE) : TE := fun σ H Q => ∃ g env c P, Rel K E g env c σ H ∧ dt env c P ∧
  ∀ x c' g' H' v, P x c' → Mv g H g' H' → Rel K E g' env c' σ H' → VOk K g' H' v x → free x → Q v H'
def upT (dt : DT) : TT := fun σ H Q => ∃ g env c P, Rel K E g env c σ H ∧ dt env c P ∧
  ∀ b c' g' H', P b c' → Mv g H g' H' → Rel K E g' env c' σ H' → Q b H'
def upA (dt : DA) : TA := fun σ H Q => ∃ g env c P, Rel K E g env c σ H ∧ dt env c P ∧
  ∀ xs c' g' H' vs, P xs c' → Mv g H g' H' → Rel K E g' env c' σ H' → VOks K g' H' vs xs → (∀ x ∈ xs, free x) → Q vs H'
def upG (ws : List Nat) (dg : DG) : TG := fun v σ H Q => ∃ g env c x P, Rel K E g env c σ H ∧ VOk K g H v x ∧ free x ∧ dg x env P ∧
  ∀ env' g' σ' H', P env' → Mv g H g' H' → Rel K E g' env' c σ' H' → Ag ws σ σ' → Q σ' H'
def upGs (ws : List Nat) (dg : DGs) : TGs := fun vs σ H Q => ∃ g env c ds P, Rel K E g env c σ H ∧ DpAll K g.F vs ds ∧ dg ds env P ∧
  ∀ env' g' σ' H', P env' → Mv g H g' H' → Rel K E g' env' c σ' H' → Ag ws σ σ' → Q σ' H'
def upS (dt : DS) : TS := fun D σ H => ∃ g env c P, Rel K E g env c σ H ∧ dt P env c ∧
  (∀ env' c' g' σ' H', P.nx env' c' → Same g.F g'.F → Rel K E g' env' c' σ' H' → D.nx σ' H') ∧
  (∀ x c' env' g' σ' H' v, P.rt x c' → Same g.F g'.F → Rel K E g' env' c' σ' H' → VOk K g' H' v x → free x → D.rt v H') ∧
  (∀ env' c' g' σ' H', P.bk env' c' → Same g.F g'.F → Rel K E g' env' c' σ' H' → D.bk σ' H') ∧
  (∀ env' c' g' σ' H', P.ct env' c' → Same g.F g'.F → Rel K E g' env' c' σ' H' → D.ct σ' H')
end
abbrev DPE (X : Cx) (E : En) (e : Expr) (dt : DE) : Prop := PE X e (up X.K E dt)
abbrev DPT (X : Cx) (E : En) (e : Expr) (dt : DT) : Prop := PT X e (upT X.K E dt)
abbrev DPA (X : Cx) (E : En) (e : List Expr) (dt : DA) : Prop := PA X e (upA X.K E dt)
abbrev DPG (X : Cx) (E : En) (ws : List Nat) (e : Expr) (dt : DG) : Prop := PG X e (upG X.K E ws dt)
abbrev DPGs (X : Cx) (E : En) (ws : List Nat) (e : List Expr) (dt : DGs) : Prop := PGs X e (upGs X.K E ws dt)
abbrev DPS (X : Cx) (E : En) (e : Stmt) (dt : DS) : Prop := PS X e (upS X.K E dt)
abbrev DPSs (X : Cx) (E : En) (e : List Stmt) (dt : DS) : Prop := PSs X e (upS X.K E dt)

theorem pe_imp {X : Cx} {e : Expr} {t t' : TE} (h : PE X e t) (i : ∀ σ H Q, t' σ H Q → t σ H Q) : PE X e t' := ⟨fun pins s σ H Q I q => h.run pins s σ H Q I (i σ H Q q)⟩
theorem pt_imp {X : Cx} {e : Expr} {t t' : TT} (h : PT X e t) (i : ∀ σ H Q, t' σ H Q → t σ H Q) : PT X e t' := ⟨fun pins s σ H Q I q => h.run pins s σ H Q I (i σ H Q q)⟩
theorem pw_imp {X : Cx} {e : Expr} {t t' : TT} (h : PW X e t) (i : ∀ σ H Q, t' σ H Q → t σ H Q) : PW X e t' := ⟨fun wh pins s σ H Q I q => h.run wh pins s σ H Q I (i σ H Q q)⟩
theorem pa_imp {X : Cx} {e : List Expr} {t t' : TA} (h : PA X e t) (i : ∀ σ H Q, t' σ H Q → t σ H Q) : PA X e t' := ⟨fun pos pins s σ H Q I q => h.run pos pins s σ H Q I (i σ H Q q)⟩
theorem pg_imp {X : Cx} {e : Expr} {t t' : TG} (h : PG X e t) (i : ∀ v σ H Q, t' v σ H Q → t v σ H Q) : PG X e t' := ⟨fun pins s σ H v u Q I r q => h.run pins s σ H v u Q I r (i v σ H Q q)⟩
theorem ps_imp {X : Cx} {e : Stmt} {t t' : TS} (h : PS X e t) (i : ∀ D σ H, t' D σ H → t D σ H) : PS X e t' := ⟨fun pins s σ H D I q => h.run pins s σ H D I (i D σ H q)⟩
theorem pss_imp {X : Cx} {e : List Stmt} {t t' : TS} (h : PSs X e t) (i : ∀ D σ H, t' D σ H → t D σ H) : PSs X e t' := ⟨fun pins s σ H D I q => h.run pins s σ H D I (i D σ H q)⟩
theorem pi_imp {X : Cx} {tg e : Expr} {t t' : TI} (h : PI X tg e t) (i : ∀ σ H Q, t' σ H Q → t σ H Q) : PI X tg e t' := ⟨fun pins s σ H Q I q => h.run pins s σ H Q I (i σ H Q q)⟩

/-! ### data-level words -/
def datK (x : Vl) (k : PyData → Prop) : Prop := match x with
  | .dat d => k d
  | _ => False
def intK (d : PyData) (k : Int → Prop) : Prop := match d with
  | .int i => k i
  | _ => False
def dVar (i : Nat) : DE := fun env c P => match env[i]? with
  | some (some (.dat d)) => P (.dat d) c
  | some (some .deck) => P .deck c
  | _ => False
def dC (d : PyData) : DE := fun _ c P => P (.dat d) c
def dOp (rd : PyData → PyData → (PyData → Prop) → Prop) (da db : DE) : DE := fun env c P =>
  da env c fun x c1 => datK x fun d => db env c1 fun y c2 => datK y fun e => rd d e fun z => P (.dat z) c2
def dUn (rd : PyData → (PyData → Prop) → Prop) (da : DE) : DE := fun env c P => da env c fun x c1 => datK x fun d => rd d fun z => P (.dat z) c1
def aNil : DA := fun _ c P => P [] c
def aCons (da : DE) (dr : DA) : DA := fun env c P => da env c fun x c1 => dr env c1 fun xs c2 => P (x :: xs) c2
def dCall (sp : List Vl → Nat → (Vl → Nat → Prop) → Prop) (da : DA) : DE := fun env c P => da env c fun xs c1 => sp xs c1 P
def datsK : List Vl → (List PyData → Prop) → Prop
  | [], k => k []
  | .dat d :: r, k => datsK r fun ds => k (d :: ds)
  | _ :: _, _ => False
def dCB (rd : List PyData → (PyData → Prop) → Prop) (da : DA) : DE := fun env c P => da env c fun xs c1 => datsK xs fun ds => rd ds fun z => P (.dat z) c1

section
variable {X : Cx} {E : En} {a b : Expr} {da db : DE} {pos : Pos}
theorem de_var (i : Nat) {x : Str} (hN : X.N[i]? = some x := by rfl) (hv : Vis X.env.scope x := by first | exact Or.inl rfl | exact Or.inr (Or.inl rfl) | exact Or.inr (Or.inr rfl)) (h1 : (x == ("__debug__" : Str)) = false := by decide)
    (h2 : (x == ("__classdict__" : Str)) = false := by decide) : DPE X E (.Name x pos) (dVar i) := by
  refine pe_imp (pe_var hN hv h1 h2) fun σ H Q h => ?_
  obtain ⟨g, env, c, P, r, hd, k⟩ := h
  unfold dVar at hd
  split at hd
  · rename_i d e
    obtain ⟨v, e1, e2⟩ := r.sl i _ e
    exact ⟨v, e1, k _ _ g H v hd (Mv.refl g H) r e2 trivial⟩
  · rename_i e
    obtain ⟨v, e1, e2⟩ := r.sl i _ e
    exact ⟨v, e1, k _ _ g H v hd (Mv.refl g H) r e2 trivial⟩
  · exact hd.elim
theorem de_c {v : V} {d : PyData} (h : PE X a (tC v)) (hd : ∀ K F, Dp K F v d) : DPE X E a (dC d) := by
  refine pe_imp h fun σ H Q q => ?_
  obtain ⟨g, env, c, P, r, p, k⟩ := q
  exact k _ _ g H v p (Mv.refl g H) r (hd _ _) trivial
theorem de_int {i : Int} {j} : DPE X E (.Constant (.int i) j pos) (dC (.int i)) := de_c pe_int fun _ _ => .int i
theorem de_bl {i : Bool} {j} : DPE X E (.Constant (.bool i) j pos) (dC (.bool i)) := de_c pe_bl fun _ _ => .bl i
theorem de_str {i : Str} {j} : DPE X E (.Constant (.str i) j pos) (dC (.str i)) := de_c pe_str fun _ _ => .str i
theorem de_non {j} : DPE X E (.Constant .none j pos) (dC .none) := de_c pe_non fun _ _ => .non

/-- an operation of two values, over data -/
def OpD (K : PySem.W.Frag) (r : R2) (rd : PyData → PyData → (PyData → Prop) → Prop) : Prop :=
  ∀ (E : En) (g : Gh) (env : Ev) (c : Nat) (σ : L2.St) (H : Hp) (x y : V) (d e : PyData) (P : PyData → Prop) (Q : VK), Rel K E g env c σ H → Dp K g.F x d → Dp K g.F y e → rd d e P →
    (∀ z g' H' v, P z → Mv g H g' H' → Rel K E g' env c σ H' → Dp K g'.F v z → Q v H') → r x y H Q
def UnD (K : PySem.W.Frag) (r : V → Hp → VK → Prop) (rd : PyData → (PyData → Prop) → Prop) : Prop :=
  ∀ (E : En) (g : Gh) (env : Ev) (c : Nat) (σ : L2.St) (H : Hp) (x : V) (d : PyData) (P : PyData → Prop) (Q : VK), Rel K E g env c σ H → Dp K g.F x d → rd d P →
    (∀ z g' H' v, P z → Mv g H g' H' → Rel K E g' env c σ H' → Dp K g'.F v z → Q v H') → r x H Q
def CallD (K : PySem.W.Frag) (r : List V → Hp → VK → Prop) (rd : List PyData → (PyData → Prop) → Prop) : Prop :=
  ∀ (E : En) (g : Gh) (env : Ev) (c : Nat) (σ : L2.St) (H : Hp) (xs : List V) (ds : List PyData) (P : PyData → Prop) (Q : VK), Rel K E g env c σ H → DpAll K g.F xs ds → rd ds P →
    (∀ z g' H' v, P z → Mv g H g' H' → Rel K E g' env c σ H' → Dp K g'.F v z → Q v H') → r xs H Q

theorem op_up {r : R2} {rd : PyData → PyData → (PyData → Prop) → Prop} {K : PySem.W.Frag} (hd : OpD K r rd) {σ : L2.St} {H : Hp} {Q : VK} (h : up K E (dOp rd da db) σ H Q) : tOp r (up K E da) (up K E db) σ H Q := by
  obtain ⟨g, env, c, P, rel, q, k⟩ := h
  refine ⟨g, env, c, _, rel, q, fun x c1 g1 H1 v p1 m1 r1 o1 f1 => ?_⟩
  cases x with
  | deck => exact p1.elim
  | own l => exact p1.elim
  | dat d =>
    refine ⟨g1, env, c1, _, r1, p1, fun y c2 g2 H2 u p2 m2 r2 o2 f2 => ?_⟩
    cases y with
    | deck => exact p2.elim
    | own l => exact p2.elim
    | dat e => exact hd E g2 env c2 σ H2 v u d e _ Q r2 (dp_mono m2.f o1) o2 p2 fun z g3 H3 w pz m3 r3 dz => k _ _ g3 H3 w pz ((m1.trans m2).trans m3) r3 dz trivial
theorem de_op {op : Operator} {r : R2} {rd : PyData → PyData → (PyData → Prop) → Prop} (ho : OpR X (binaryOp op) r) (hd : OpD X.K r rd) (ha : DPE X E a da) (hb : DPE X E b db) : DPE X E (.BinOp a op b pos) (dOp rd da db) :=
  pe_imp (pe_op ho ha hb) fun _ _ _ h => op_up hd h
theorem de_cmp {op : CmpOp} {r : R2} {rd : PyData → PyData → (PyData → Prop) → Prop} (ho : OpR X (compareOp op) r) (hd : OpD X.K r rd) (ha : DPE X E a da) (hb : DPE X E b db) (hm : behindInMarks op b = false := by first | exact nobehind _ (by decide) (by decide) | rfl) :
    DPE X E (.Compare a [op] [b] pos) (dOp rd da db) := pe_imp (pe_cmpR ho ha hb hm) fun _ _ _ h => op_up hd h
theorem de_ix {r : R2} {rd : PyData → PyData → (PyData → Prop) → Prop} (ho : IxR X r) (hd : OpD X.K r rd) (ha : DPE X E a da) (hb : DPE X E b db) (hs : PlainIx b := by exact fun _ _ => rfl) : DPE X E (.Subscript a b pos) (dOp rd da db) :=
  pe_imp (pe_ix ho ha hb hs) fun _ _ _ h => op_up hd h
theorem de_un {op : UnaryOp} {r : V → Hp → VK → Prop} {rd : PyData → (PyData → Prop) → Prop} (ho : UnR X (unaryOp op) r) (hd : UnD X.K r rd) (ha : DPE X E a da) : DPE X E (.UnaryOp op a pos) (dUn rd da) := by
  refine pe_imp (pe_un ho ha) fun σ H Q h => ?_
  obtain ⟨g, env, c, P, rel, q, k⟩ := h
  refine ⟨g, env, c, _, rel, q, fun x c1 g1 H1 v p1 m1 r1 o1 f1 => ?_⟩
  cases x with
  | deck => exact p1.elim
  | own l => exact p1.elim
  | dat d => exact hd E g1 env c1 σ H1 v d _ Q r1 o1 p1 fun z g3 H3 w pz m3 r3 dz => k _ _ g3 H3 w pz (m1.trans m3) r3 dz trivial

/-! ### arguments and calls -/
theorem da_nil : DPA X E [] aNil := by
  refine pa_imp pa_nil fun σ H Q h => ?_
  obtain ⟨g, env, c, P, rel, q, k⟩ := h
  exact k [] c g H [] q (Mv.refl g H) rel trivial (fun _ h => nomatch h)
theorem VOks.mono {K : PySem.W.Frag} {g g' : Gh} {H H' : Hp} (m : Mo g g') : ∀ {vs : List V} {xs : List Vl}, (∀ x ∈ xs, free x) → VOks K g H vs xs → VOks K g' H' vs xs
  | [], [], _, _ => trivial
  | v :: vs, x :: xs, hf, h => ⟨VOk.mono m (hf x List.mem_cons_self) h.1, VOks.mono m (fun y hy => hf y (List.mem_cons_of_mem _ hy)) h.2⟩
  | [], _ :: _, _, h => h.elim
  | _ :: _, [], _, h => h.elim
theorem da_cons {es : List Expr} {dr : DA} (ha : DPE X E a da) (hr : DPA X E es dr) (hs : starEach (a :: es) X.env = (false, eval a X.env) :: starEach es X.env := by rfl) : DPA X E (a :: es) (aCons da dr) := by
  refine pa_imp (pa_cons ha hr hs) fun σ H Q h => ?_
  obtain ⟨g, env, c, P, rel, q, k⟩ := h
  refine ⟨g, env, c, _, rel, q, fun x c1 g1 H1 v p1 m1 r1 o1 f1 => ⟨g1, env, c1, _, r1, p1, fun xs c2 g2 H2 vs p2 m2 r2 o2 f2 => ?_⟩⟩
  refine k _ _ g2 H2 (v :: vs) p2 (m1.trans m2) r2 ⟨VOk.mono m2.toMo f1 o1, o2⟩ fun y hy => ?_
  rcases List.mem_cons.mp hy with rfl | hy
  · exact f1
  · exact f2 y hy
theorem datsK_all {K : PySem.W.Frag} {g : Gh} {H : Hp} : ∀ {xs : List Vl} {vs : List V} {k : List PyData → Prop}, VOks K g H vs xs → datsK xs k → ∃ ds, k ds ∧ DpAll K g.F vs ds
  | [], [], k, _, h => ⟨[], h, .nil⟩
  | [], _ :: _, k, h, _ => h.elim
  | _ :: _, [], k, h, _ => h.elim
  | .dat d :: xs, v :: vs, k, h, q => by
    obtain ⟨ds, h1, h2⟩ := datsK_all h.2 q
    exact ⟨d :: ds, h1, .cons h.1 h2⟩
  | .deck :: _, _ :: _, _, _, h => h.elim
  | .own _ :: _, _ :: _, _, _, h => h.elim
theorem cb_up {r : List V → Hp → VK → Prop} {rd : List PyData → (PyData → Prop) → Prop} {K : PySem.W.Frag} (hd : CallD K r rd) {dr : DA} {σ : L2.St} {H : Hp} {Q : VK} (h : up K E (dCB rd dr) σ H Q) : tCB r (upA K E dr) σ H Q := by
  obtain ⟨g, env, c, P, rel, q, k⟩ := h
  refine ⟨g, env, c, _, rel, q, fun xs c1 g1 H1 vs p1 m1 r1 o1 f1 => ?_⟩
  obtain ⟨ds, h1, h2⟩ := datsK_all o1 p1
  exact hd E g1 env c1 σ H1 vs ds _ Q r1 h2 h1 fun z g3 H3 w pz m3 r3 dz => k _ _ g3 H3 w pz (m1.trans m3) r3 dz trivial
theorem de_callB {x : Str} {p : Pos} {id : String} {es : List Expr} {dr : DA} {r : List V → Hp → VK → Prop} {rd : List PyData → (PyData → Prop) → Prop} (hc : CallR X (.builtin id) r) (hd : CallD X.K r rd) (hm : X.mg x = none) (hv : bootBuiltins x = some (.builtin id)) (ha : DPA X E (a :: es) dr)
    (hg : Gl X x := by rfl) (hn : x ≠ "__name__" := by decide) (hdb : (x == ("__debug__" : Str)) = false := by decide)
    (he : starEach (a :: es) X.env = (false, eval a X.env) :: starEach es X.env := by rfl) (hpl : (backTo pos (starEach es X.env)).any (·.1) = false := by rfl) : DPE X E (.Call (.Name x p) (a :: es) [] pos) (dCB rd dr) :=
  pe_imp (pe_callB hc hg hm hv ha hn hdb he hpl) fun _ _ _ h => cb_up hd h
theorem de_callT {x : Str} {p : Pos} {id : String} {es : List Expr} {dr : DA} {r : List V → Hp → VK → Prop} {rd : List PyData → (PyData → Prop) → Prop} (hc : CallR X (.type id) r) (hd : CallD X.K r rd) (hm : X.mg x = none) (hv : bootBuiltins x = some (.type id)) (ha : DPA X E (a :: es) dr)
    (hg : Gl X x := by rfl) (hn : x ≠ "__name__" := by decide) (hdb : (x == ("__debug__" : Str)) = false := by decide)
    (he : starEach (a :: es) X.env = (false, eval a X.env) :: starEach es X.env := by rfl) (hpl : (backTo pos (starEach es X.env)).any (·.1) = false := by rfl) : DPE X E (.Call (.Name x p) (a :: es) [] pos) (dCB rd dr) :=
  pe_imp (pe_callTy hc hg hm hv ha hn hdb he hpl) fun _ _ _ h => cb_up hd h
end
end DL
namespace DL
open PySem PySem.Spec PyProof.Rows L2

/-! ### operations on ints -/
def rdI (f : Int → Int → PyData) : PyData → PyData → (PyData → Prop) → Prop := fun d e P => intK d fun i => intK e fun j => P (f i j)
def rdIc (C : Int → Int → Prop) (f : Int → Int → PyData) : PyData → PyData → (PyData → Prop) → Prop := fun d e P => intK d fun i => intK e fun j => C i j ∧ P (f i j)
section
variable {K : PySem.W.Frag}
theorem dp_int {F : Hp} {v : V} {i : Int} (h : Dp K F v (.int i)) : v = .int i := by cases h; rfl
theorem dp_bl {F : Hp} {v : V} {i : Bool} (h : Dp K F v (.bool i)) : v = .bl i := by cases h; rfl
theorem dp_str {F : Hp} {v : V} {i : Str} (h : Dp K F v (.str i)) : v = .str i := by cases h; rfl
theorem dp_non {F : Hp} {v : V} (h : Dp K F v .none) : v = .non := by cases h; rfl
theorem opd_I0 {gV : Int → Int → V} {gD : Int → Int → PyData} (h : ∀ K F i j, Dp K F (gV i j) (gD i j)) : OpD K (rI0 gV) (rdI gD) := by
  intro E g env c σ H x y d e P Q r hx hy q k
  cases d <;> try exact q.elim
  cases e <;> try exact q.elim
  exact ⟨_, _, dp_int hx, dp_int hy, k _ g H _ q (Mv.refl g H) r (h _ _ _ _)⟩
theorem opd_I {C : Int → Int → Prop} {gV : Int → Int → V} {gD : Int → Int → PyData} (h : ∀ K F i j, Dp K F (gV i j) (gD i j)) : OpD K (rI C gV) (rdIc C gD) := by
  intro E g env c σ H x y d e P Q r hx hy q k
  cases d <;> try exact q.elim
  cases e <;> try exact q.elim
  exact ⟨_, _, dp_int hx, dp_int hy, q.1, k _ g H _ q.2 (Mv.refl g H) r (h _ _ _ _)⟩
abbrev rdAdd := rdI fun i j => .int (i + j)
abbrev rdSub := rdI fun i j => .int (i - j)
abbrev rdMul := rdIc CMul fun i j => .int (i * j)
abbrev rdMod := rdIc (fun _ j => 0 < j) fun i j => .int (i % j)
abbrev rdDiv := rdIc CDiv fun i j => .int (i / j)
abbrev rdPow := rdIc CPow fun i j => .int (i ^ j.toNat)
abbrev rdLt := rdI fun i j => .bool (decide (i < j))
abbrev rdLe := rdI fun i j => .bool (decide (i ≤ j))
abbrev rdGt := rdI fun i j => .bool (decide (j < i))
abbrev rdGe := rdI fun i j => .bool (decide (j ≤ i))
end
section
variable {X : Cx} {E : En} {a b : Expr} {da db : DE} {pos : Pos}
theorem de_add (ha : DPE X E a da) (hb : DPE X E b db) : DPE X E (.BinOp a .Add b pos) (dOp rdAdd da db) := de_op op_add (opd_I0 fun _ _ _ _ => .int _) ha hb
theorem de_sub (ha : DPE X E a da) (hb : DPE X E b db) : DPE X E (.BinOp a .Sub b pos) (dOp rdSub da db) := de_op op_sub (opd_I0 fun _ _ _ _ => .int _) ha hb
theorem de_mul (ha : DPE X E a da) (hb : DPE X E b db) : DPE X E (.BinOp a .Mult b pos) (dOp rdMul da db) := de_op op_mul (opd_I fun _ _ _ _ => .int _) ha hb
theorem de_mod (ha : DPE X E a da) (hb : DPE X E b db) : DPE X E (.BinOp a .Mod b pos) (dOp rdMod da db) := de_op op_mod (opd_I fun _ _ _ _ => .int _) ha hb
theorem de_div (ha : DPE X E a da) (hb : DPE X E b db) : DPE X E (.BinOp a .FloorDiv b pos) (dOp rdDiv da db) := de_op op_fdiv (opd_I fun _ _ _ _ => .int _) ha hb
theorem de_pow (ha : DPE X E a da) (hb : DPE X E b db) : DPE X E (.BinOp a .Pow b pos) (dOp rdPow da db) := de_op op_pow (opd_I fun _ _ _ _ => .int _) ha hb
theorem de_lt (ha : DPE X E a da) (hb : DPE X E b db) : DPE X E (.Compare a [.Lt] [b] pos) (dOp rdLt da db) := de_cmp op_lt (opd_I0 fun _ _ _ _ => .bl _) ha hb
theorem de_le (ha : DPE X E a da) (hb : DPE X E b db) : DPE X E (.Compare a [.LtE] [b] pos) (dOp rdLe da db) := de_cmp op_le (opd_I0 fun _ _ _ _ => .bl _) ha hb
theorem de_gt (ha : DPE X E a da) (hb : DPE X E b db) : DPE X E (.Compare a [.Gt] [b] pos) (dOp rdGt da db) := de_cmp op_gt (opd_I0 fun _ _ _ _ => .bl _) ha hb
theorem de_ge (ha : DPE X E a da) (hb : DPE X E b db) : DPE X E (.Compare a [.GtE] [b] pos) (dOp rdGe da db) := de_cmp op_ge (opd_I0 fun _ _ _ _ => .bl _) ha hb
def rdNeg : PyData → (PyData → Prop) → Prop := fun d P => intK d fun i => P (.int (-i))
theorem de_neg (ha : DPE X E a da) : DPE X E (.UnaryOp .USub a pos) (dUn rdNeg da) := by
  refine de_un un_neg (fun E g env c σ H x d P Q r hx q k => ?_) ha
  cases d <;> try exact q.elim
  exact ⟨_, dp_int hx, k _ g H _ q (Mv.refl g H) r (.int _)⟩

/-! ### == and != -/
def rdEq : PyData → PyData → (PyData → Prop) → Prop := fun d e P => match d, e with
  | .str x, .str y => P (.bool (decide (x = y)))
  | .int i, .int j => P (.bool (decide (i = j)))
  | d, e => SeqAt.shaped d = true ∧ SeqAt.shaped e = true ∧ P (.bool (PyData.eqv d e))
def rdNe : PyData → PyData → (PyData → Prop) → Prop := fun d e P => rdEq d e fun z => match z with
  | .bool b => P (.bool (!b))
  | _ => False
theorem op_or {f : Value → Value → Sem Value} {r r' : R2} (h : OpR X f r) (h' : OpR X f r') : OpR X f (fun x y H Q => r x y H Q ∨ r' x y H Q) := by
  intro pins s σ H x y v u Q I rx ry q
  rcases q with q | q
  · exact h pins s σ H x y v u Q I rx ry q
  · exact h' pins s σ H x y v u Q I rx ry q
theorem dpF {K : PySem.W.Frag} {E : En} {g : Gh} {env : Ev} {c : Nat} {σ : L2.St} {H : Hp} (r : Rel K E g env c σ H) {v : V} {d : PyData} (h : Dp K g.F v d) : Dp K H v d := dp_mono r.ex h
theorem opd_eq {K : PySem.W.Frag} : OpD K (fun x y H Q => rEq x y H Q ∨ rEqD K x y H Q) rdEq := by
  intro E g env c σ H x y d e P Q r hx hy q k
  unfold rdEq at q
  split at q
  · rename_i a b
    rw [dp_str hx, dp_str hy]
    refine .inl ⟨rfl, ?_⟩
    have := k _ g H (.bl (decide (a = b))) q (Mv.refl g H) r (.bl _)
    rwa [show decide (V.str a = V.str b) = decide (a = b) from by simp]
  · rename_i a b
    rw [dp_int hx, dp_int hy]
    refine .inl ⟨rfl, ?_⟩
    have := k _ g H (.bl (decide (a = b))) q (Mv.refl g H) r (.bl _)
    rwa [show decide (V.int a = V.int b) = decide (a = b) from by simp]
  · exact .inr ⟨_, _, dpF r hx, dpF r hy, q.1, q.2.1, k _ g H _ q.2.2 (Mv.refl g H) r (.bl _)⟩
theorem opd_ne {K : PySem.W.Frag} : OpD K (fun x y H Q => rNe x y H Q ∨ rNeD K x y H Q) rdNe := by
  intro E g env c σ H x y d e P Q r hx hy q k
  unfold rdNe rdEq at q
  split at q
  · rename_i a b
    rw [dp_str hx, dp_str hy]
    refine .inl ⟨rfl, ?_⟩
    have := k _ g H (.bl (!decide (a = b))) q (Mv.refl g H) r (.bl _)
    rwa [show decide (V.str a = V.str b) = decide (a = b) from by simp]
  · rename_i a b
    rw [dp_int hx, dp_int hy]
    refine .inl ⟨rfl, ?_⟩
    have := k _ g H (.bl (!decide (a = b))) q (Mv.refl g H) r (.bl _)
    rwa [show decide (V.int a = V.int b) = decide (a = b) from by simp]
  · exact .inr ⟨_, _, dpF r hx, dpF r hy, q.1, q.2.1, k _ g H _ q.2.2 (Mv.refl g H) r (.bl _)⟩
theorem de_eq {k : Nat} (hr : Room k X.A) (ha : DPE X E a da) (hb : DPE X E b db) : DPE X E (.Compare a [.Eq] [b] pos) (dOp rdEq da db) := de_cmp (op_or op_eq (op_eqD hr.units)) opd_eq ha hb
theorem de_ne {k : Nat} (hr : Room k X.A) (ha : DPE X E a da) (hb : DPE X E b db) : DPE X E (.Compare a [.NotEq] [b] pos) (dOp rdNe da db) := de_cmp (op_or op_ne (op_neD hr.units)) opd_ne ha hb

/-! ### is None -/
def rdIsN : PyData → (PyData → Prop) → Prop := fun d P => match d with
  | .none => P (.bool true)
  | _ => P (.bool false)
def rdNotN : PyData → (PyData → Prop) → Prop := fun d P => match d with
  | .none => P (.bool false)
  | _ => P (.bool true)
theorem dp_isN {K : PySem.W.Frag} {F : Hp} {v : V} {d : PyData} (h : Dp K F v d) : (d = .none ∧ v = .non) ∨ (d ≠ .none ∧ v ≠ .non) := by
  cases h <;> first | exact .inl ⟨rfl, rfl⟩ | exact .inr ⟨(fun z => nomatch z), (fun z => nomatch z)⟩
theorem de_isN {j} {p2 : Pos} (ha : DPE X E a da) : DPE X E (.Compare a [.Is] [.Constant .none j p2] pos) (dUn rdIsN da) := by
  refine pe_imp (pe_cmp (pc_isN ha) rfl) fun σ H Q h => ?_
  obtain ⟨g, env, c, P, rel, q, k⟩ := h
  refine ⟨g, env, c, _, rel, q, fun x c1 g1 H1 v p1 m1 r1 o1 f1 => ?_⟩
  cases x with
  | deck => exact p1.elim
  | own l => exact p1.elim
  | dat d =>
    rcases dp_isN o1 with ⟨rfl, rfl⟩ | ⟨n1, n2⟩
    · exact k _ _ g1 H1 (.bl (decide (V.non = .non))) p1 m1 r1 (.bl _) trivial
    · have p1' : P (.dat (.bool false)) c1 := by
        cases d <;> first | exact absurd rfl n1 | exact p1
      rw [decide_eq_false n2]
      exact k _ _ g1 H1 (.bl false) p1' m1 r1 (.bl _) trivial
theorem de_notN {j} {p2 : Pos} (ha : DPE X E a da) : DPE X E (.Compare a [.IsNot] [.Constant .none j p2] pos) (dUn rdNotN da) := by
  refine pe_imp (pe_cmp (pc_notN ha) rfl) fun σ H Q h => ?_
  obtain ⟨g, env, c, P, rel, q, k⟩ := h
  refine ⟨g, env, c, _, rel, q, fun x c1 g1 H1 v p1 m1 r1 o1 f1 => ?_⟩
  cases x with
  | deck => exact p1.elim
  | own l => exact p1.elim
  | dat d =>
    rcases dp_isN o1 with ⟨rfl, rfl⟩ | ⟨n1, n2⟩
    · exact k _ _ g1 H1 (.bl (!decide (V.non = .non))) p1 m1 r1 (.bl _) trivial
    · have p1' : P (.dat (.bool true)) c1 := by
        cases d <;> first | exact absurd rfl n1 | exact p1
      rw [decide_eq_false n2]
      exact k _ _ g1 H1 (.bl true) p1' m1 r1 (.bl _) trivial

/-! ### items -/
def ixK (ds : List PyData) (e : PyData) (P : PyData → Prop) : Prop := intK e fun i => match atI ds i with
  | some z => P z
  | none => False
def rdIx : PyData → PyData → (PyData → Prop) → Prop := fun d e P => match d with
  | .list ds => ixK ds e P
  | .tuple ds => ixK ds e P
  | _ => False
theorem atI_dp {K : PySem.W.Frag} {F : Hp} {xs : List V} {ds : List PyData} (h : DpAll K F xs ds) {i : Int} {d : PyData} (e : atI ds i = some d) : ∃ v, atI xs i = some v ∧ Dp K F v d := by
  unfold atI at e ⊢
  rw [DpAll.len h]
  cases hi : ixN ds.length i with
  | none => rw [hi] at e; cases e
  | some j =>
    rw [hi] at e
    exact DpAll.get h e
theorem opd_ix {K : PySem.W.Frag} : OpD K (fun x y H Q => rIxL K x y H Q ∨ rIxT K x y H Q) rdIx := by
  intro E g env c σ H x y d e P Q r hx hy q k
  cases d <;> try exact q.elim
  · rename_i ds
    have q1 : ixK ds e P := q
    clear q
    cases e <;> try exact q1.elim
    rename_i i
    cases hx with
    | lst hs ha =>
      have q : (match atI ds i with | some z => P z | none => False) := q1
      cases hz : atI ds i with
      | none => rw [hz] at q; exact q.elim
      | some z =>
        rw [hz] at q
        obtain ⟨v, h1, h2⟩ := atI_dp ha hz
        exact .inl ⟨_, _, i, v, rfl, dp_int hy, r.ex.seq hs, h1, k _ g H v q (Mv.refl g H) r h2⟩
  · rename_i ds
    have q1 : ixK ds e P := q
    clear q
    cases e <;> try exact q1.elim
    rename_i i
    cases hx with
    | tup hs ha =>
      have q : (match atI ds i with | some z => P z | none => False) := q1
      cases hz : atI ds i with
      | none => rw [hz] at q; exact q.elim
      | some z =>
        rw [hz] at q
        obtain ⟨v, h1, h2⟩ := atI_dp ha hz
        exact .inr ⟨_, _, i, v, rfl, dp_int hy, seqT r.ex hs, h1, k _ g H v q (Mv.refl g H) r h2⟩
theorem de_item (ha : DPE X E a da) (hb : DPE X E b db) (hs : PlainIx b := by exact fun _ _ => rfl) : DPE X E (.Subscript a b pos) (dOp rdIx da db) := de_ix (IxR.or ix_list ix_tup) opd_ix ha hb hs

/-! ### displays -/
def dTup (dr : DA) : DE := fun env c P => dr env c fun xs c1 => datsK xs fun ds => ds.length ≤ sizeLine ∧ P (.dat (.tuple ds)) c1
def dLst (dr : DA) : DE := fun env c P => dr env c fun xs c1 => datsK xs fun ds => ds.length ≤ sizeLine ∧ P (.dat (.list ds)) c1
theorem de_tup {es : List Expr} {dr : DA} {x1} (h : DPA X E es dr) : DPE X E (.Tuple es x1 pos) (dTup dr) := by
  refine pe_imp (pe_tup h) fun σ H Q h => ?_
  obtain ⟨g, env, c, P, rel, q, k⟩ := h
  refine ⟨g, env, c, _, rel, q, fun xs c1 g1 H1 vs p1 m1 r1 o1 f1 => ?_⟩
  obtain ⟨ds, h1, h2⟩ := datsK_all o1 p1
  refine ⟨by rw [DpAll.len h2]; exact h1.1, fun p hp => ?_⟩
  obtain ⟨r2, m2⟩ := r1.new (.tup vs) hp
  exact k _ _ _ _ _ h1.2 (m1.trans m2) r2 (.tup (.of upd_same) (dpAll_mono m2.f h2)) trivial
theorem de_lst {es : List Expr} {dr : DA} (h : DPA X E es dr) : DPE X E (.List es pos) (dLst dr) := by
  refine pe_imp (pe_lst h) fun σ H Q h => ?_
  obtain ⟨g, env, c, P, rel, q, k⟩ := h
  refine ⟨g, env, c, _, rel, q, fun xs c1 g1 H1 vs p1 m1 r1 o1 f1 => ?_⟩
  obtain ⟨ds, h1, h2⟩ := datsK_all o1 p1
  refine ⟨by rw [DpAll.len h2]; exact h1.1, fun p hp => ?_⟩
  obtain ⟨r2, m2⟩ := r1.new (.lst vs) hp
  exact k _ _ _ _ _ h1.2 (m1.trans m2) r2 (.lst (.of upd_same) (dpAll_mono m2.f h2)) trivial

/-! ### built-in calls -/
def rdLen : List PyData → (PyData → Prop) → Prop := fun ds P => match ds with
  | [.list xs] => P (.int xs.length)
  | [.tuple xs] => P (.int xs.length)
  | _ => False
theorem cd_len {K : PySem.W.Frag} : CallD K (fun xs H Q => ∃ p ys, xs = [V.ref p] ∧ (SqL K H p ys ∨ SqT K H p ys) ∧ Q (.int ys.length) H) rdLen := by
  intro E g env c σ H xs ds P Q r h q k
  unfold rdLen at q
  split at q
  · cases h with
    | cons h1 t =>
      cases t
      cases h1 with
      | lst hs ha => exact ⟨_, _, rfl, .inl (r.ex.seq hs), by rw [DpAll.len ha]; exact k _ g H _ q (Mv.refl g H) r (.int _)⟩
  · cases h with
    | cons h1 t =>
      cases t
      cases h1 with
      | tup hs ha => exact ⟨_, _, rfl, .inr (seqT r.ex hs), by rw [DpAll.len ha]; exact k _ g H _ q (Mv.refl g H) r (.int _)⟩
  · exact q.elim
def rdTuple : List PyData → (PyData → Prop) → Prop := fun ds P => match ds with
  | [.list xs] => P (.tuple xs)
  | [.tuple xs] => P (.tuple xs)
  | _ => False
theorem cd_tuple {K : PySem.W.Frag} : CallD K (fun xs H Q => ∃ p ys, xs = [V.ref p] ∧ ((SqL K H p ys ∧ ∀ l, H l = none → Q (.ref l) (upd H l (.tup ys))) ∨ (SqT K H p ys ∧ Q (.ref p) H))) rdTuple := by
  intro E g env c σ H xs ds P Q r h q k
  unfold rdTuple at q
  split at q
  · cases h with
    | cons h1 t =>
      cases t
      cases h1 with
      | lst hs ha =>
        refine ⟨_, _, rfl, .inl ⟨r.ex.seq hs, fun l hl => ?_⟩⟩
        obtain ⟨r2, m2⟩ := r.new (.tup _) hl
        exact k _ _ _ _ q m2 r2 (.tup (.of upd_same) (dpAll_mono m2.f ha))
  · cases h with
    | cons h1 t =>
      cases t
      cases h1 with
      | tup hs ha => exact ⟨_, _, rfl, .inr ⟨seqT r.ex hs, k _ g H _ q (Mv.refl g H) r (.tup hs ha)⟩⟩
  · exact q.elim
def intsOf : List PyData → Option (List Int)
  | [] => some []
  | .int i :: r => (intsOf r).map (i :: ·)
  | _ :: _ => none
theorem intsOf_dp {K : PySem.W.Frag} {F : Hp} : ∀ {ds : List PyData} {xs : List V} {ns : List Int}, intsOf ds = some ns → DpAll K F xs ds → xs = ns.map V.int
  | [], _, ns, e, h => by
    cases h
    cases e
    rfl
  | .int i :: r, _, ns, e, h => by
    cases h with
    | cons h1 t =>
      unfold intsOf at e
      cases hr : intsOf r with
      | none => rw [hr] at e; cases e
      | some ms =>
        rw [hr] at e
        cases e
        rw [dp_int h1, intsOf_dp hr t]
        rfl
  | .none :: _, _, _, e, _ => by cases e
  | .bool _ :: _, _, _, e, _ => by cases e
  | .str _ :: _, _, _, e, _ => by cases e
  | .list _ :: _, _, _, e, _ => by cases e
  | .tuple _ :: _, _, _, e, _ => by cases e
  | .dict _ :: _, _, _, e, _ => by cases e
theorem intsOf_map (ns : List Int) : intsOf (ns.map PyData.int) = some ns := by
  induction ns with
  | nil => rfl
  | cons n r ih => simp [intsOf, ih]
def rdSum : List PyData → (PyData → Prop) → Prop := fun ds P => match ds with
  | [.list xs] => ∃ ns, intsOf xs = some ns ∧ P (.int ns.sum)
  | _ => False
theorem cd_sum {K : PySem.W.Frag} : CallD K (rSum K) rdSum := by
  intro E g env c σ H xs ds P Q r h q k
  unfold rdSum at q
  split at q
  · cases h with
    | cons h1 t =>
      cases t
      cases h1 with
      | lst hs ha =>
        obtain ⟨ns, e, q⟩ := q
        have ex := intsOf_dp e ha
        subst ex
        exact ⟨_, ns, rfl, r.ex.seq hs, k _ g H _ q (Mv.refl g H) r (.int _)⟩
  · exact q.elim
def rdMax2 : List PyData → (PyData → Prop) → Prop := fun ds P => match ds with
  | [.int i, .int j] => P (.int (max i j))
  | _ => False
def rdMin2 : List PyData → (PyData → Prop) → Prop := fun ds P => match ds with
  | [.int i, .int j] => P (.int (min i j))
  | _ => False
theorem cd_max2 {K : PySem.W.Frag} : CallD K (fun xs H Q => ∃ i j, xs = [V.int i, V.int j] ∧ Q (.int (if j > i then j else i)) H) rdMax2 := by
  intro E g env c σ H xs ds P Q r h q k
  unfold rdMax2 at q
  split at q
  · rename_i i j
    cases h with
    | cons h1 t =>
      cases t with
      | cons h2 t =>
        cases t
        rw [dp_int h1, dp_int h2]
        refine ⟨i, j, rfl, ?_⟩
        have e : (if j > i then j else i) = max i j := by
          split <;> omega
        rw [e]
        exact k _ g H _ q (Mv.refl g H) r (.int _)
  · exact q.elim
theorem cd_min2 {K : PySem.W.Frag} : CallD K (fun xs H Q => ∃ i j, xs = [V.int i, V.int j] ∧ Q (.int (if j < i then j else i)) H) rdMin2 := by
  intro E g env c σ H xs ds P Q r h q k
  unfold rdMin2 at q
  split at q
  · rename_i i j
    cases h with
    | cons h1 t =>
      cases t with
      | cons h2 t =>
        cases t
        rw [dp_int h1, dp_int h2]
        refine ⟨i, j, rfl, ?_⟩
        have e : (if j < i then j else i) = min i j := by
          split <;> omega
        rw [e]
        exact k _ g H _ q (Mv.refl g H) r (.int _)
  · exact q.elim
def rdInt1 : List PyData → (PyData → Prop) → Prop := fun ds P => match ds with
  | [.int i] => P (.int i)
  | [.bool b] => P (.int (if b then 1 else 0))
  | _ => False
theorem cd_int1 {K : PySem.W.Frag} : CallD K (fun xs H Q => (∃ i, xs = [V.int i] ∧ Q (.int i) H) ∨ ∃ k, xs = [V.bl k] ∧ Q (.int (if k then 1 else 0)) H) rdInt1 := by
  intro E g env c σ H xs ds P Q r h q k
  unfold rdInt1 at q
  split at q
  · cases h with
    | cons h1 t =>
      cases t
      rw [dp_int h1]
      exact .inl ⟨_, rfl, k _ g H _ q (Mv.refl g H) r (.int _)⟩
  · cases h with
    | cons h1 t =>
      cases t
      rw [dp_bl h1]
      exact .inr ⟨_, rfl, k _ g H _ q (Mv.refl g H) r (.int _)⟩
  · exact q.elim

/-! ### repr -/
def rRepr (K : PySem.W.Frag) : List V → Hp → VK → Prop := fun xs H Q => ∃ v d, xs = [v] ∧ Dp K H v d ∧ d.showable = true ∧ d.depth ≤ 60 ∧ d.shown.length ≤ sizeLine ∧ Q (.str d.shown) H
theorem dp_noDict {K : PySem.W.Frag} {H : Hp} : ∀ {d : PyData} {v : V}, Dp K H v d → d.hasDict = false := fun {d v} h => by
  have hA : ∀ {vs : List V} {ds : List PyData}, DpAll K H vs ds → PyData.hasDictAll ds = false := fun {vs ds} h => by
    refine DpAll.rec (motive_1 := fun v d _ => d.hasDict = false) (motive_2 := fun vs ds _ => PyData.hasDictAll ds = false) ?_ ?_ ?_ ?_ ?_ ?_ ?_ ?_ h <;> simp [PyData.hasDict, PyData.hasDictAll]
    intro v vs d ds _ _ h1 h2
    exact ⟨h1, h2⟩
  cases h with
  | non => rfl
  | bl => rfl
  | int => rfl
  | str => rfl
  | lst hs ha => simp [PyData.hasDict, hA ha]
  | tup hs ha => simp [PyData.hasDict, hA ha]
theorem cr_repr (hg : X.A.guards = some []) (hu : X.A.units + 64 < cLine) : CallR X (.builtin "repr") (rRepr X.K) := by
  intro pins s σ H xs us Q I r h
  obtain ⟨v, d, rfl, hd, h1, h2, h3, q⟩ := h
  obtain ⟨u, rfl, ru⟩ := vals1 r
  cases hd with
  | non =>
    cases ru
    exact PySem.P.repr_of_none ⟨.str _, H, I.tok _, ⟨_, rfl⟩, q⟩
  | bl b =>
    cases ru
    exact PySem.P.repr_of_bool ⟨.str _, H, I.tok _, ⟨_, rfl⟩, by cases b <;> exact q⟩
  | int i =>
    obtain ⟨t, rfl⟩ := ru
    exact PySem.P.repr_of_int (of_decide_eq_true h1) ⟨.str _, H, I.tok _, ⟨_, rfl⟩, q⟩
  | str x =>
    obtain ⟨t, rfl⟩ := ru
    exact PySem.P.repr_of_str ⟨.str _, H, I.tok _, ⟨_, rfl⟩, q⟩ h3
  | lst hs ha =>
    cases ru
    obtain ⟨as, hr⟩ := Dp.reads I _ _ _ (Dp.lst hs ha) rfl
    exact repr_of_reads' hr h1 (PyData.noDict_hsm (dp_noDict (Dp.lst hs ha))) hg (by omega) (fun _ _ e => e) (fun h' u tk hk => ⟨.str _, H, I.kept hk, ⟨_, rfl⟩, q⟩) h3
  | tup hs ha =>
    cases ru
    obtain ⟨as, hr⟩ := Dp.reads I _ _ _ (Dp.tup hs ha) rfl
    exact repr_of_reads' hr h1 (PyData.noDict_hsm (dp_noDict (Dp.tup hs ha))) hg (by omega) (fun _ _ e => e) (fun h' u tk hk => ⟨.str _, H, I.kept hk, ⟨_, rfl⟩, q⟩) h3
/-- what repr can show -/
def shows (d : PyData) : Prop := d.showable = true ∧ d.depth ≤ 60 ∧ d.shown.length ≤ sizeLine
def rdRepr : List PyData → (PyData → Prop) → Prop := fun ds P => match ds with
  | [d] => shows d ∧ P (.str d.shown)
  | _ => False
theorem cd_repr {K : PySem.W.Frag} : CallD K (rRepr K) rdRepr := by
  intro E g env c σ H xs ds P Q r h q k
  unfold rdRepr at q
  split at q
  · cases h with
    | cons h1 t =>
      cases t
      exact ⟨_, _, rfl, dpF r h1, q.1.1, q.1.2.1, q.1.2.2, k _ g H _ q.2 (Mv.refl g H) r (.str _)⟩
  · exact q.elim
end
end DL
namespace DL
open PySem PySem.Spec PyProof.Rows L2

/-! ### tests -/
def boolK (d : PyData) (k : Bool → Prop) : Prop := match d with
  | .bool b => k b
  | _ => False
def tVal (da : DE) : DT := fun env c P => da env c fun x c1 => datK x fun d => boolK d fun b => P b c1
def tNt (t : DT) : DT := fun env c P => t env c fun b c1 => P (!b) c1
def tAn (t u : DT) : DT := fun env c P => t env c fun b c1 => if b = true then u env c1 P else P false c1
def tOo (t u : DT) : DT := fun env c P => t env c fun b c1 => if b = true then P true c1 else u env c1 P
def dNt (da : DE) : DE := fun env c P => da env c fun x c1 => datK x fun d => boolK d fun b => P (.dat (.bool (!b))) c1
def dAn (da db : DE) : DE := fun env c P => da env c fun x c1 => datK x fun d => boolK d fun b => if b = true then db env c1 P else P (.dat (.bool false)) c1
def dOo (da db : DE) : DE := fun env c P => da env c fun x c1 => datK x fun d => boolK d fun b => if b = true then P (.dat (.bool true)) c1 else db env c1 P
def dIfE (t : DT) (da db : DE) : DE := fun env c P => t env c fun b c1 => if b = true then da env c1 P else db env c1 P
abbrev DPW (X : Cx) (E : En) (e : Expr) (dt : DT) : Prop := PW X e (upT X.K E dt)
section
variable {X : Cx} {E : En} {a b : Expr} {da db : DE} {ta tb : DT} {pos : Pos} {rest : List Expr}
theorem dt_val (h : DPE X E a da) (he : ∀ whole, isTrue a X.env whole = (do let v ← whole; standAt a.pos; holding [v] (truthy v)) := by intro _; rfl) : DPT X E a (tVal da) := by
  refine pt_imp (pt_val h he) fun σ H Q h => ?_
  obtain ⟨g, env, c, P, rel, q, k⟩ := h
  refine ⟨g, env, c, _, rel, q, fun x c1 g1 H1 v p1 m1 r1 o1 f1 => ?_⟩
  cases x with
  | deck => exact p1.elim
  | own l => exact p1.elim
  | dat d =>
    cases d <;> try exact p1.elim
    exact ⟨_, dp_bl o1, k _ _ g1 H1 p1 m1 r1⟩
theorem dt_not (h : DPT X E a ta) : DPT X E (.UnaryOp .Not a pos) (tNt ta) := by
  refine pt_imp (pt_not h) fun σ H Q h => ?_
  obtain ⟨g, env, c, P, rel, q, k⟩ := h
  exact ⟨g, env, c, _, rel, q, fun x c1 g1 H1 p1 m1 r1 => k _ _ g1 H1 p1 m1 r1⟩
theorem dw_and1 (h : DPT X E a ta) : DPW X E (.BoolOp .And [a] pos) ta := pw_and1 h
theorem dw_or1 (h : DPT X E a ta) : DPW X E (.BoolOp .Or [a] pos) ta := pw_or1 h
theorem dw_and (h : DPT X E a ta) (h2 : DPW X E (.BoolOp .And (b :: rest) pos) tb) : DPW X E (.BoolOp .And (a :: b :: rest) pos) (tAn ta tb) := by
  refine pw_imp (pw_and h h2) fun σ H Q h => ?_
  obtain ⟨g, env, c, P, rel, q, k⟩ := h
  refine ⟨g, env, c, _, rel, q, fun x c1 g1 H1 p1 m1 r1 => ?_⟩
  cases x with
  | true => exact iteT ⟨g1, env, c1, _, r1, p1, fun y c2 g2 H2 p2 m2 r2 => k _ _ g2 H2 p2 (m1.trans m2) r2⟩
  | false => exact iteF (k _ _ g1 H1 p1 m1 r1)
theorem dw_or (h : DPT X E a ta) (h2 : DPW X E (.BoolOp .Or (b :: rest) pos) tb) : DPW X E (.BoolOp .Or (a :: b :: rest) pos) (tOo ta tb) := by
  refine pw_imp (pw_or h h2) fun σ H Q h => ?_
  obtain ⟨g, env, c, P, rel, q, k⟩ := h
  refine ⟨g, env, c, _, rel, q, fun x c1 g1 H1 p1 m1 r1 => ?_⟩
  cases x with
  | true => exact iteT (k _ _ g1 H1 p1 m1 r1)
  | false => exact iteF ⟨g1, env, c1, _, r1, p1, fun y c2 g2 H2 p2 m2 r2 => k _ _ g2 H2 p2 (m1.trans m2) r2⟩
theorem dt_w (h : DPW X E a ta) : DPT X E a ta := PW.pt h
theorem de_not (h : DPE X E a da) : DPE X E (.UnaryOp .Not a pos) (dNt da) := by
  refine pe_imp (pe_not h) fun σ H Q h => ?_
  obtain ⟨g, env, c, P, rel, q, k⟩ := h
  refine ⟨g, env, c, _, rel, q, fun x c1 g1 H1 v p1 m1 r1 o1 f1 => ?_⟩
  cases x with
  | deck => exact p1.elim
  | own l => exact p1.elim
  | dat d =>
    cases d <;> try exact p1.elim
    exact ⟨_, dp_bl o1, k _ _ g1 H1 _ p1 m1 r1 (.bl _) trivial⟩
theorem de_one {op} (h : DPE X E a da) : DPE X E (.BoolOp op [a] pos) da := pe_one h
theorem de_and (h : DPE X E a da) (h2 : DPE X E (.BoolOp .And (b :: rest) pos) db) : DPE X E (.BoolOp .And (a :: b :: rest) pos) (dAn da db) := by
  refine pe_imp (pe_and h h2) fun σ H Q h => ?_
  obtain ⟨g, env, c, P, rel, q, k⟩ := h
  refine ⟨g, env, c, _, rel, q, fun x c1 g1 H1 v p1 m1 r1 o1 f1 => ?_⟩
  cases x with
  | deck => exact p1.elim
  | own l => exact p1.elim
  | dat d =>
    cases d <;> try exact p1.elim
    rename_i bb
    refine ⟨bb, dp_bl o1, ?_⟩
    cases bb with
    | true => exact iteT ⟨g1, env, c1, _, r1, p1, fun y c2 g2 H2 v2 p2 m2 r2 o2 f2 => k _ _ g2 H2 v2 p2 (m1.trans m2) r2 o2 f2⟩
    | false => exact iteF (k _ _ g1 H1 _ p1 m1 r1 (.bl _) trivial)
theorem de_or (h : DPE X E a da) (h2 : DPE X E (.BoolOp .Or (b :: rest) pos) db) : DPE X E (.BoolOp .Or (a :: b :: rest) pos) (dOo da db) := by
  refine pe_imp (pe_or h h2) fun σ H Q h => ?_
  obtain ⟨g, env, c, P, rel, q, k⟩ := h
  refine ⟨g, env, c, _, rel, q, fun x c1 g1 H1 v p1 m1 r1 o1 f1 => ?_⟩
  cases x with
  | deck => exact p1.elim
  | own l => exact p1.elim
  | dat d =>
    cases d <;> try exact p1.elim
    rename_i bb
    refine ⟨bb, dp_bl o1, ?_⟩
    cases bb with
    | true => exact iteT (k _ _ g1 H1 _ p1 m1 r1 (.bl _) trivial)
    | false => exact iteF ⟨g1, env, c1, _, r1, p1, fun y c2 g2 H2 v2 p2 m2 r2 o2 f2 => k _ _ g2 H2 v2 p2 (m1.trans m2) r2 o2 f2⟩
theorem de_ifE {t : Expr} (ht : DPT X E t ta) (h : DPE X E a da) (h2 : DPE X E b db) : DPE X E (.IfExp t a b pos) (dIfE ta da db) := by
  refine pe_imp (pe_ifExp ht h h2) fun σ H Q h => ?_
  obtain ⟨g, env, c, P, rel, q, k⟩ := h
  refine ⟨g, env, c, _, rel, q, fun x c1 g1 H1 p1 m1 r1 => ?_⟩
  cases x with
  | true => exact iteT ⟨g1, env, c1, _, r1, p1, fun y c2 g2 H2 v2 p2 m2 r2 o2 f2 => k _ _ g2 H2 v2 p2 (m1.trans m2) r2 o2 f2⟩
  | false => exact iteF ⟨g1, env, c1, _, r1, p1, fun y c2 g2 H2 v2 p2 m2 r2 o2 f2 => k _ _ g2 H2 v2 p2 (m1.trans m2) r2 o2 f2⟩
end

/-! ### slots -/
theorem set_get {α : Type} {l : List (Option α)} {i j : Nat} {x y : α} (h : (l.set i (some x))[j]? = some (some y)) : (j = i ∧ i < l.length ∧ y = x) ∨ (j ≠ i ∧ l[j]? = some (some y)) := by
  by_cases e : j = i
  · subst e
    by_cases hl : j < l.length
    · rw [List.getElem?_set_self hl] at h
      exact .inl ⟨rfl, hl, (Option.some.inj (Option.some.inj h)).symm⟩
    · rw [List.getElem?_eq_none (by simpa using hl)] at h
      cases h
  · rw [List.getElem?_set_ne (Ne.symm e)] at h
    exact .inr ⟨e, h⟩
section
variable {K : PySem.W.Frag} {E : En} {g g' : Gh} {env env' : Ev} {c c' : Nat} {σ σ' : L2.St} {H H' : Hp}
theorem Rel.set (r : Rel K E g env c σ H) (i : Nat) {v : V} {x : Vl} (h : VOk K g H v x) (hf : free x) : Rel K E g (env.set i (some x)) c (σ.set i (some v)) H := by
  have notown : ∀ l, x ≠ .own l := fun l e => by
    subst e
    exact hf
  have key : ∀ (j : Nat) (l : List PyData), (env.set i (some x))[j]? = some (some (Vl.own l)) → j ≠ i ∧ env[j]? = some (some (Vl.own l)) := fun j l e => by
    rcases set_get e with ⟨_, _, e⟩ | e
    · exact absurd e.symm (notown l)
    · exact e
  refine ⟨r.mo, r.md, r.mt, r.dn, r.nf, r.fr, fun j l e a ea => ?_, r.ex, fun j y e => ?_, fun j k lj lk a ne e1 e2 e3 e4 => ?_, r.dk, by simpa using r.len⟩
  · obtain ⟨ne, e1⟩ := key j l e
    rw [List.getElem?_set_ne (Ne.symm ne)] at ea
    exact r.nw j l e1 a ea
  · rcases set_get e with ⟨rfl, hl, rfl⟩ | ⟨ne, e1⟩
    · exact ⟨v, by rw [List.getElem?_set_self (by rw [← r.len]; exact hl)], h⟩
    · obtain ⟨u, h1, h2⟩ := r.sl j y e1
      exact ⟨u, by rw [List.getElem?_set_ne (Ne.symm ne)]; exact h1, h2⟩
  · obtain ⟨n1, f1⟩ := key j lj e1
    obtain ⟨n2, f2⟩ := key k lk e2
    rw [List.getElem?_set_ne (Ne.symm n1)] at e3
    rw [List.getElem?_set_ne (Ne.symm n2)] at e4
    exact r.ap j k lj lk a ne f1 f2 e3 e4
/-- behind a block: the slots as they were -/
theorem Rel.back (r : Rel K E g env c σ H) (r' : Rel K E g' env' c' σ' H') (m : Mv g H g' H') : Rel K E g' env c' σ H' := by
  refine ⟨r'.mo, r'.md, r'.mt, r'.dn, r'.nf, r'.fr, r.nw, r'.ex, fun i x e => ?_, r.ap, r'.dk, r.len⟩
  obtain ⟨v, h1, h2⟩ := r.sl i x e
  refine ⟨v, h1, ?_⟩
  cases x with
  | dat d => exact dp_mono m.f h2
  | deck =>
    obtain ⟨p, q, e, z⟩ := h2
    exact ⟨p, q, by rw [m.d]; exact e, z⟩
  | own l =>
    obtain ⟨a, xs, rfl, h3, h4, h5, h6⟩ := h2
    refine ⟨a, xs, rfl, ?_, fun z => h4 (m.toMo.isDk z), m.fr a _ h5 h4, dpAll_mono m.f h6⟩
    cases q : g'.F a with
    | none => rfl
    | some o =>
      rcases m.nf a o q with w | w
      · rw [h3] at w
        cases w
      · rw [h5] at w
        cases w
def wipeE (env : Ev) : List Nat → Ev
  | [] => env
  | v :: vs => (wipeE env vs).set v none
theorem wipeE_len : ∀ vs : List Nat, (wipeE env vs).length = env.length
  | [] => rfl
  | v :: vs => by
    unfold wipeE
    rw [List.length_set, wipeE_len vs]
theorem wipeE_some {i : Nat} {x : Vl} : ∀ {vs : List Nat}, (wipeE env vs)[i]? = some (some x) → env[i]? = some (some x) ∧ i ∉ vs
  | [], h => ⟨h, by simp⟩
  | v :: vs, h => by
    unfold wipeE at h
    by_cases hi : v = i
    · subst hi
      by_cases hv : v < (wipeE env vs).length
      · rw [List.getElem?_set_self hv] at h; cases h
      · rw [List.getElem?_eq_none (by simpa using hv)] at h; cases h
    · rw [List.getElem?_set_ne hi] at h
      obtain ⟨h1, h2⟩ := wipeE_some h
      exact ⟨h1, by simp only [List.mem_cons, not_or]; exact ⟨fun e => hi e.symm, h2⟩⟩
theorem wipe_out {i : Nat} : ∀ {vs : List Nat}, i ∉ vs → (wipe σ vs)[i]? = σ[i]?
  | [], _ => rfl
  | v :: vs, h => by
    unfold wipe
    rw [List.getElem?_set_ne (fun e => h (by rw [e]; exact List.mem_cons_self)), wipe_out fun z => h (List.mem_cons_of_mem _ z)]
theorem wipe_in {i : Nat} : ∀ {vs : List Nat}, i ∈ vs → i < σ.length → (wipe σ vs)[i]? = some none
  | [], h, _ => by cases h
  | v :: vs, h, hl => by
    unfold wipe
    by_cases e : v = i
    · subst e
      rw [List.getElem?_set_self (by rw [wipe_length]; exact hl)]
    · rw [List.getElem?_set_ne e]
      exact wipe_in ((List.mem_cons.mp h).resolve_left fun z => e z.symm) hl
theorem Rel.wipe (r : Rel K E g env c σ H) (vs : List Nat) : Rel K E g (wipeE env vs) c (L2.wipe σ vs) H := by
  refine ⟨r.mo, r.md, r.mt, r.dn, r.nf, r.fr, fun i l e a ea => ?_, r.ex, fun i x e => ?_, fun i j li lj a ne e1 e2 e3 e4 => ?_, r.dk, by rw [wipeE_len, wipe_length]; exact r.len⟩
  · obtain ⟨e1, n1⟩ := wipeE_some e
    rw [wipe_out n1] at ea
    exact r.nw i l e1 a ea
  · obtain ⟨e1, n1⟩ := wipeE_some e
    rw [wipe_out n1]
    exact r.sl i x e1
  · obtain ⟨f1, n1⟩ := wipeE_some e1
    obtain ⟨f2, n2⟩ := wipeE_some e2
    rw [wipe_out n1] at e3
    rw [wipe_out n2] at e4
    exact r.ap i j li lj a ne f1 f2 e3 e4
theorem ag_wipe {ws vs : List Nat} (h : Ag ws (wipe σ vs) σ') (hs : ∀ i ∈ ws, i ∈ vs) : wipe σ' vs = wipe σ vs := by
  have hl : σ'.length = σ.length := by rw [h.1, wipe_length]
  apply List.ext_getElem?
  intro i
  by_cases hv : i ∈ vs
  · by_cases hi : i < σ.length
    · rw [wipe_in hv hi, wipe_in hv (by rw [hl]; exact hi)]
    · rw [List.getElem?_eq_none (by rw [wipe_length, hl]; omega), List.getElem?_eq_none (by rw [wipe_length]; omega)]
  · rw [wipe_out hv, h.2 i fun z => hv (hs i z)]
end

/-! ### targets -/
def gNm (i : Nat) : DG := fun x env k => k (env.set i (some x))
def gsNil : DGs := fun ds env k => match ds with
  | [] => k env
  | _ => False
def gsCons (t : DG) (u : DGs) : DGs := fun ds env k => match ds with
  | d :: r => t (.dat d) env fun env' => u r env' k
  | [] => False
def gTu (n : Nat) (u : DGs) : DG := fun x env k => datK x fun d => match d with
  | .tuple ds => ds.length = n ∧ u ds env k
  | _ => False
section
variable {X : Cx} {E : En} {pos : Pos}
theorem dg_name (i : Nat) {x : Str} (hN : X.N.Nodup) (hi : X.N[i]? = some x := by rfl) (hx : Loc X.env.scope x := by first | exact Or.inl rfl | exact Or.inr rfl) (hf : X.fn x = true ∨ X.env.scope.names.lookup x = some .local := by first | exact .inl rfl | exact .inr rfl | assumption) : DPG X E [i] (.Name x pos) (gNm i) := by
  refine pg_imp (pg_name hN hi hx hf) fun v σ H Q h => ?_
  obtain ⟨g, env, c, x, P, rel, o, f, q, k⟩ := h
  exact k _ g _ H q (Mv.refl g H) (rel.set i o f) ⟨by simp, fun j hj => List.getElem?_set_ne fun e => hj (by simp [e])⟩
theorem dgs_nil : DPGs X E [] [] gsNil := by
  refine ⟨fun pins s σ H vs us Q I r h => pgs_nil.run pins s σ H vs us Q I r ?_⟩
  obtain ⟨g, env, c, ds, P, rel, o, q, k⟩ := h
  cases ds with
  | cons d r => exact q.elim
  | nil =>
    cases o
    exact ⟨rfl, k _ g _ H q (Mv.refl g H) rel ⟨rfl, fun _ _ => rfl⟩⟩
theorem dgs_cons {e : Expr} {es : List Expr} {t : DG} {u : DGs} {ws vs : List Nat} (h1 : DPG X E ws e t) (h2 : DPGs X E vs es u)
    (h3 : (assignEach (e :: es) X.env).map (·.2) = assign e X.env :: (assignEach es X.env).map (·.2) := by rfl) : DPGs X E (ws ++ vs) (e :: es) (gsCons t u) := by
  refine ⟨fun pins s σ H vs' us Q I r h => (pgs_cons h1 h2 h3).run pins s σ H vs' us Q I r ?_⟩
  obtain ⟨g, env, c, ds, P, rel, o, q, k⟩ := h
  cases ds with
  | nil => exact q.elim
  | cons d rr =>
    cases o with
    | cons o1 o2 =>
      refine ⟨_, _, rfl, g, env, c, .dat d, _, rel, o1, trivial, q, fun env1 g1 σ1 H1 p1 m1 r1 a1 => ⟨g1, env1, c, rr, _, r1, dpAll_mono m1.f o2, p1, fun env2 g2 σ2 H2 p2 m2 r2 a2 => k _ g2 σ2 H2 p2 (m1.trans m2) r2 ⟨a2.1.trans a1.1, fun i hi => ?_⟩⟩⟩
      rw [List.mem_append, not_or] at hi
      rw [a2.2 i hi.2, a1.2 i hi.1]
theorem dg_tup {es : List Expr} {kk : Nat} {t : DGs} {n : Nat} {ws : List Nat} (h : DPGs X E ws es t) (hc : X.calm = true := by rfl)
    (hn : (assignEach es X.env).length = n := by rfl) (hst : (assignEach es X.env).findIdx? (·.1) = none := by rfl) : DPG X E ws (.Tuple es kk pos) (gTu n t) := by
  refine pg_imp (pg_tup hc h hn hst) fun v σ H Q h => ?_
  obtain ⟨g, env, c, x, P, rel, o, f, q, k⟩ := h
  cases x with
  | deck => exact q.elim
  | own l => exact f.elim
  | dat d =>
    cases d <;> try exact q.elim
    rename_i ds
    have o : Dp X.K g.F v (.tuple ds) := o
    cases o with
    | tup hs ha => exact ⟨_, _, rfl, seqT rel.ex hs, (DpAll.len ha).trans q.1, g, env, c, ds, _, rel, ha, q.2, k⟩
end
end DL
namespace DL
open PySem PySem.Spec PyProof.Rows L2
/-! ### comparisons as tests -/
section
variable {X : Cx} {E : En} {a b : Expr} {da db : DE} {pos : Pos}
theorem tB_up {K : PySem.W.Frag} {t : TE} (i : ∀ σ H Q, up K E da σ H Q → t σ H Q) {σ : L2.St} {H : Hp} {Q : Bool → Hp → Prop} (h : upT K E (tVal da) σ H Q) : tB t σ H Q := by
  obtain ⟨g, env, c, P, rel, q, k⟩ := h
  refine i σ H _ ⟨g, env, c, _, rel, q, fun x c1 g1 H1 v p1 m1 r1 o1 f1 => ?_⟩
  cases x with
  | deck => exact p1.elim
  | own l => exact p1.elim
  | dat d =>
    cases d <;> try exact p1.elim
    exact ⟨_, dp_bl o1, k _ _ g1 H1 p1 m1 r1⟩
theorem dt_cmp {op : CmpOp} {r : R2} {rd : PyData → PyData → (PyData → Prop) → Prop} (ho : OpR X (compareOp op) r) (hd : OpD X.K r rd) (ha : DPE X E a da) (hb : DPE X E b db) (hm : behindInMarks op b = false := by first | exact nobehind _ (by decide) (by decide) | rfl) :
    DPT X E (.Compare a [op] [b] pos) (tVal (dOp rd da db)) := pt_imp (pt_cmpR ho ha hb hm) fun _ _ _ h => tB_up (fun _ _ _ h => op_up hd h) h
theorem dt_lt (ha : DPE X E a da) (hb : DPE X E b db) : DPT X E (.Compare a [.Lt] [b] pos) (tVal (dOp rdLt da db)) := dt_cmp op_lt (opd_I0 fun _ _ _ _ => .bl _) ha hb
theorem dt_le (ha : DPE X E a da) (hb : DPE X E b db) : DPT X E (.Compare a [.LtE] [b] pos) (tVal (dOp rdLe da db)) := dt_cmp op_le (opd_I0 fun _ _ _ _ => .bl _) ha hb
theorem dt_gt (ha : DPE X E a da) (hb : DPE X E b db) : DPT X E (.Compare a [.Gt] [b] pos) (tVal (dOp rdGt da db)) := dt_cmp op_gt (opd_I0 fun _ _ _ _ => .bl _) ha hb
theorem dt_ge (ha : DPE X E a da) (hb : DPE X E b db) : DPT X E (.Compare a [.GtE] [b] pos) (tVal (dOp rdGe da db)) := dt_cmp op_ge (opd_I0 fun _ _ _ _ => .bl _) ha hb
theorem dt_eq {k : Nat} (hr : Room k X.A) (ha : DPE X E a da) (hb : DPE X E b db) : DPT X E (.Compare a [.Eq] [b] pos) (tVal (dOp rdEq da db)) := dt_cmp (op_or op_eq (op_eqD hr.units)) opd_eq ha hb
theorem dt_ne {k : Nat} (hr : Room k X.A) (ha : DPE X E a da) (hb : DPE X E b db) : DPT X E (.Compare a [.NotEq] [b] pos) (tVal (dOp rdNe da db)) := dt_cmp (op_or op_ne (op_neD hr.units)) opd_ne ha hb
theorem isN_up {K : PySem.W.Frag} {σ : L2.St} {H : Hp} {Q : VK} (h : up K E (dUn rdIsN da) σ H Q) : tIsN (up K E da) σ H Q := by
  obtain ⟨g, env, c, P, rel, q, k⟩ := h
  refine ⟨g, env, c, _, rel, q, fun x c1 g1 H1 v p1 m1 r1 o1 f1 => ?_⟩
  cases x with
  | deck => exact p1.elim
  | own l => exact p1.elim
  | dat d =>
    rcases dp_isN o1 with ⟨rfl, rfl⟩ | ⟨n1, n2⟩
    · exact k _ _ g1 H1 (.bl (decide (V.non = .non))) p1 m1 r1 (.bl _) trivial
    · have p1' : P (.dat (.bool false)) c1 := by
        cases d <;> first | exact absurd rfl n1 | exact p1
      rw [decide_eq_false n2]
      exact k _ _ g1 H1 (.bl false) p1' m1 r1 (.bl _) trivial
theorem notN_up {K : PySem.W.Frag} {σ : L2.St} {H : Hp} {Q : VK} (h : up K E (dUn rdNotN da) σ H Q) : tNotN (up K E da) σ H Q := by
  obtain ⟨g, env, c, P, rel, q, k⟩ := h
  refine ⟨g, env, c, _, rel, q, fun x c1 g1 H1 v p1 m1 r1 o1 f1 => ?_⟩
  cases x with
  | deck => exact p1.elim
  | own l => exact p1.elim
  | dat d =>
    rcases dp_isN o1 with ⟨rfl, rfl⟩ | ⟨n1, n2⟩
    · exact k _ _ g1 H1 (.bl (!decide (V.non = .non))) p1 m1 r1 (.bl _) trivial
    · have p1' : P (.dat (.bool true)) c1 := by
        cases d <;> first | exact absurd rfl n1 | exact p1
      rw [decide_eq_false n2]
      exact k _ _ g1 H1 (.bl true) p1' m1 r1 (.bl _) trivial
theorem dt_isN {j} {p2 : Pos} (ha : DPE X E a da) : DPT X E (.Compare a [.Is] [.Constant .none j p2] pos) (tVal (dUn rdIsN da)) := pt_imp (pt_cmp (pc_isN ha) rfl) fun _ _ _ h => tB_up (fun _ _ _ h => isN_up h) h
theorem dt_notN {j} {p2 : Pos} (ha : DPE X E a da) : DPT X E (.Compare a [.IsNot] [.Constant .none j p2] pos) (tVal (dUn rdNotN da)) := pt_imp (pt_cmp (pc_notN ha) rfl) fun _ _ _ h => tB_up (fun _ _ _ h => notN_up h) h
end
end DL
namespace DL
open PySem PySem.Spec PyProof.Rows L2

/-! ### statements -/
def sNx : DS := fun D env c => D.nx env c
def sSeq (s t : DS) : DS := fun D env c => s { D with nx := t D } env c
def sRet (da : DE) : DS := fun D env c => da env c D.rt
def sRetN : DS := fun D _ c => D.rt (.dat .none) c
def sAsg (da : DE) (dg : DG) : DS := fun D env c => da env c fun x c1 => dg x env fun env' => D.nx env' c1
def sIf (t : DT) (s u : DS) : DS := fun D env c => t env c fun b c1 => if b = true then s D env c1 else u D env c1
def sDrop (da : DE) : DS := fun D env c => da env c fun _ c1 => D.nx env c1
def sBrk : DS := fun D env c => D.bk env c
def sCnt : DS := fun D env c => D.ct env c
section
variable {X : Cx} {E : En} {st : Stmt} {rest : List Stmt} {t u : DS} {a : Expr} {da : DE} {pos : Pos}
theorem ds_nil : DPSs X E [] sNx := by
  refine pss_imp pss_nil fun D σ H h => ?_
  obtain ⟨g, env, c, P, rel, q, k, _⟩ := h
  exact k _ _ g σ H q (Same.refl _) rel
theorem ds_pass : DPS X E (.Pass pos) sNx := by
  refine ps_imp ps_pass fun D σ H h => ?_
  obtain ⟨g, env, c, P, rel, q, k, _⟩ := h
  exact k _ _ g σ H q (Same.refl _) rel
theorem ds_brk : DPS X E (.Break pos) sBrk := by
  refine ps_imp ps_break fun D σ H h => ?_
  obtain ⟨g, env, c, P, rel, q, _, _, k, _⟩ := h
  exact k _ _ g σ H q (Same.refl _) rel
theorem ds_cnt : DPS X E (.Continue pos) sCnt := by
  refine ps_imp ps_continue fun D σ H h => ?_
  obtain ⟨g, env, c, P, rel, q, _, _, _, k⟩ := h
  exact k _ _ g σ H q (Same.refl _) rel
theorem ds_cons (h1 : DPS X E st t) (h2 : DPSs X E rest u) : DPSs X E (st :: rest) (sSeq t u) := by
  refine pss_imp (pss_cons h1 h2) fun D σ H h => ?_
  obtain ⟨g, env, c, P, rel, q, k1, k2, k3, k4⟩ := h
  refine ⟨g, env, c, _, rel, q, fun env1 c1 g1 σ1 H1 p1 m1 r1 => ⟨g1, env1, c1, P, r1, p1, fun env2 c2 g2 σ2 H2 p2 m2 r2 => k1 env2 c2 g2 σ2 H2 p2 (m1.trans m2) r2, fun x c2 env2 g2 σ2 H2 v p2 m2 r2 => k2 x c2 env2 g2 σ2 H2 v p2 (m1.trans m2) r2,
    fun env2 c2 g2 σ2 H2 p2 m2 r2 => k3 env2 c2 g2 σ2 H2 p2 (m1.trans m2) r2, fun env2 c2 g2 σ2 H2 p2 m2 r2 => k4 env2 c2 g2 σ2 H2 p2 (m1.trans m2) r2⟩, k2, k3, k4⟩
theorem ds_one (h1 : DPS X E st t) : DPSs X E [st] t := pss_one h1
theorem ds_ret (h : DPE X E a da) : DPS X E (.Return (some a) pos) (sRet da) := by
  refine ps_imp (ps_ret h) fun D σ H h => ?_
  obtain ⟨g, env, c, P, rel, q, _, k, _⟩ := h
  exact ⟨g, env, c, _, rel, q, fun x c1 g1 H1 v p1 m1 r1 o1 f1 => k x c1 env g1 σ H1 v p1 m1.f r1 o1 f1⟩
theorem ds_retN : DPS X E (.Return none pos) sRetN := by
  refine ps_imp ps_retN fun D σ H h => ?_
  obtain ⟨g, env, c, P, rel, q, _, k, _⟩ := h
  exact k _ c env g σ H .non q (Same.refl _) rel .non trivial
theorem asg_up {K : PySem.W.Frag} {ws : List Nat} {dg : DG} {D : Ends} {σ : L2.St} {H : Hp} (h : upS K E (sAsg da dg) D σ H) : tAsg (up K E da) (upG K E ws dg) D σ H := by
  obtain ⟨g, env, c, P, rel, q, k, _⟩ := h
  exact ⟨g, env, c, _, rel, q, fun x c1 g1 H1 v p1 m1 r1 o1 f1 => ⟨g1, env, c1, x, _, r1, o1, f1, p1, fun env2 g2 σ2 H2 p2 m2 r2 _ => k env2 c1 g2 σ2 H2 p2 (m1.f.trans m2.f) r2⟩⟩
theorem asgN_up {K : PySem.W.Frag} {i : Nat} {D : Ends} {σ : L2.St} {H : Hp} (h : upS K E (sAsg da (gNm i)) D σ H) : tAsg (up K E da) (gName i) D σ H := by
  obtain ⟨g, env, c, P, rel, q, k, _⟩ := h
  exact ⟨g, env, c, _, rel, q, fun x c1 g1 H1 v p1 m1 r1 o1 f1 => k _ c1 g1 _ H1 p1 m1.f (r1.set i o1 f1)⟩
/-- x = e -/
theorem ds_set (i : Nat) {x : Str} {p2 : Pos} (hN : X.N.Nodup) (h : DPE X E a da) (hi : X.N[i]? = some x := by rfl) (hx : Loc X.env.scope x := by first | exact Or.inl rfl | exact Or.inr rfl) (hs : swapsWith a (some (.Name x p2)) pos.line X.env = pure false := by rfl) (hf : X.fn x = true ∨ X.env.scope.names.lookup x = some .local := by first | exact .inl rfl | exact .inr rfl | assumption) :
    DPS X E (.Assign [.Name x p2] a pos) (sAsg da (gNm i)) := ps_imp (ps_set hN hi hx h hs hf) fun _ _ _ h => asgN_up h
/-- target = e -/
theorem ds_asg {tg : Expr} {ws : List Nat} {dg : DG} (h : DPE X E a da) (hg : DPG X E ws tg dg) (hs : swapsWithSole [tg] a pos.line X.env = pure false := by rfl) (hw : swappedStores [tg] a X.env = pure none := by rfl)
    (h1 : (assignEach [tg] X.env).map (·.2) = [assign tg X.env] := by rfl) : DPS X E (.Assign [tg] a pos) (sAsg da dg) := ps_imp (ps_asg h hg hs hw h1) fun _ _ _ h => asg_up h
theorem ds_if {tt : DT} {s1 s2 : List Stmt} (h : DPT X E a tt) (h1 : DPSs X E s1 t) (h2 : DPSs X E s2 u) : DPS X E (.If a s1 s2 pos) (sIf tt t u) := by
  refine ps_imp (ps_if h h1 h2) fun D σ H h => ?_
  obtain ⟨g, env, c, P, rel, q, k1, k2, k3, k4⟩ := h
  refine ⟨g, env, c, _, rel, q, fun b c1 g1 H1 p1 m1 r1 => ?_⟩
  have fin : ∀ {w : DS}, w P env c1 → upS X.K E w D σ H1 := fun {w} p => ⟨g1, env, c1, P, r1, p, fun env2 c2 g2 σ2 H2 p2 m2 r2 => k1 env2 c2 g2 σ2 H2 p2 (m1.f.trans m2) r2, fun x c2 env2 g2 σ2 H2 v p2 m2 r2 => k2 x c2 env2 g2 σ2 H2 v p2 (m1.f.trans m2) r2,
    fun env2 c2 g2 σ2 H2 p2 m2 r2 => k3 env2 c2 g2 σ2 H2 p2 (m1.f.trans m2) r2, fun env2 c2 g2 σ2 H2 p2 m2 r2 => k4 env2 c2 g2 σ2 H2 p2 (m1.f.trans m2) r2⟩
  cases b with
  | true => exact iteT (fin p1)
  | false => exact iteF (fin p1)
theorem ds_drop (h : DPE X E a da) (hs : swapsWith a none pos.line X.env = pure false := by rfl) : DPS X E (.Expr a pos) (sDrop da) := by
  refine ps_imp (ps_expr h hs) fun D σ H h => ?_
  obtain ⟨g, env, c, P, rel, q, k, _⟩ := h
  exact ⟨g, env, c, _, rel, q, fun x c1 g1 H1 v p1 m1 r1 o1 f1 => k _ c1 g1 _ H1 p1 m1.f r1⟩
/-- a, b = e1, e2 -/
def sPar (i j : Nat) (da : DA) : DS := fun D env c => da env c fun xs c1 => match xs with
  | [x, y] => D.nx ((env.set i (some x)).set j (some y)) c1
  | _ => False
theorem par_up {K : PySem.W.Frag} {i j : Nat} {dr : DA} {D : Ends} {σ : L2.St} {H : Hp} (h : upS K E (sPar i j dr) D σ H) : tPar i j (upA K E dr) D σ H := by
  obtain ⟨g, env, c, P, rel, q, k, _⟩ := h
  refine ⟨g, env, c, _, rel, q, fun xs c1 g1 H1 vs p1 m1 r1 o1 f1 => ?_⟩
  split at p1
  · rename_i x y
    match vs, o1 with
    | [v, w], o1 =>
      refine ⟨v, w, rfl, k _ c1 g1 _ H1 p1 m1.f ((r1.set i o1.1 (f1 x (by simp))).set j o1.2.1 (f1 y (by simp)))⟩
  · exact p1.elim
end

theorem ds_par {X : Cx} {E : En} (i j : Nat) {x y : Str} {a b : Expr} {dr : DA} {px py pt pos : Pos} {kt k2 pt2} (hN : X.N.Nodup) (ha : DPA X E [a, b] dr) (hij : i ≠ j := by decide) (hi : X.N[i]? = some x := by rfl) (hj : X.N[j]? = some y := by rfl)
    (hx : X.env.scope.names.lookup x = some .local := by rfl) (hy : X.env.scope.names.lookup y = some .local := by rfl) (hc : X.calm = true := by rfl)
    (hw : swappedStores [.Tuple [.Name x px, .Name y py] kt pt] (.Tuple [a, b] k2 pt2) X.env = pure (some [x, y]) := by rfl)
    (hs : swapsWithSole [.Tuple [.Name x px, .Name y py] kt pt] (.Tuple [a, b] k2 pt2) pos.line X.env = pure false := by rfl) : DPS X E (.Assign [.Tuple [.Name x px, .Name y py] kt pt] (.Tuple [a, b] k2 pt2) pos) (sPar i j dr) :=
  ps_imp (ps_par hc hN hi hj hij hx hy ha hw hs) fun _ _ _ h => par_up h

/-! ### what is walked -/
/-- the walk J gives the items, new pairs or what stands there -/
def WalkD (K : PySem.W.Frag) (g : Gh) (J : It) (items : List PyData) : Prop := ∃ G Y, Walk J items.length G Y ∧ (∀ (g' : Gh) (H' : Hp), Same g.F g'.F → Same g'.F H' → G H') ∧
  ∀ i H x H' d, items[i]? = some d → Y i H x H' → (H' = H ∧ Dp K g.F x d) ∨ ∃ T o, H T = none ∧ H' = upd H T o ∧ ∀ F, Same g.F F → F T = none → Dp K (upd F T o) x d
def upI (K : PySem.W.Frag) (E : En) (dw : DI) : TI := fun σ H R => ∃ g env c P, Rel K E g env c σ H ∧ dw env c P ∧
  ∀ items c' g' H' J, P items c' → Mv g H g' H' → Rel K E g' env c' σ H' → WalkD K g' J items → R J H'
abbrev DPI (X : Cx) (E : En) (tg e : Expr) (dw : DI) : Prop := PI X tg e (upI X.K E dw)
def wL (da : DE) : DI := fun env c P => da env c fun x c1 => datK x fun d => match d with
  | .list ds => P ds c1
  | _ => False
def wT (da : DE) : DI := fun env c P => da env c fun x c1 => datK x fun d => match d with
  | .tuple ds => P ds c1
  | _ => False
def rangeD (lo : Int) (n : Nat) : List PyData := (List.range n).map fun (k : Nat) => PyData.int (lo + k)
def wR1 (da : DA) : DI := fun env c P => da env c fun xs c1 => datsK xs fun ds => match ds with
  | [.int n] => -(2 ^ 62) ≤ n ∧ n < 2 ^ 62 ∧ P (rangeD 0 n.toNat) c1
  | _ => False
def wR2 (da : DA) : DI := fun env c P => da env c fun xs c1 => datsK xs fun ds => match ds with
  | [.int i, .int j] => (-(2 ^ 62) ≤ i ∧ i < 2 ^ 62 ∧ -(2 ^ 62) ≤ j ∧ j < 2 ^ 62) ∧ P (rangeD i (j - i).toNat) c1
  | _ => False
theorem rangeD_len (lo : Int) (n : Nat) : (rangeD lo n).length = n := by simp [rangeD]
theorem walkD_range {K : PySem.W.Frag} {g : Gh} {lo : Int} {n : Nat} : WalkD K g (Itr lo n) (rangeD lo n) := by
  refine ⟨_, _, by rw [rangeD_len]; exact walk_range, fun _ _ _ _ => trivial, fun i H x H' d e y => ?_⟩
  obtain ⟨rfl, rfl⟩ := y
  unfold rangeD at e
  rw [List.getElem?_map] at e
  by_cases hi : i < n
  · rw [List.getElem?_range hi] at e
    cases e
    exact .inl ⟨rfl, .int _⟩
  · rw [List.getElem?_eq_none (by simpa using hi)] at e
    cases e
section
variable {X : Cx} {E : En} {tg a b : Expr} {da db : DE} {dr : DA} {pos p : Pos}
theorem dw_list (h : DPE X E a da) : DPI X E tg a (wL da) := by
  refine pi_imp (pi_list h) fun σ H R h => ?_
  obtain ⟨g, env, c, P, rel, q, k⟩ := h
  refine ⟨g, env, c, _, rel, q, fun x c1 g1 H1 v p1 m1 r1 o1 f1 => ?_⟩
  cases x with
  | deck => exact p1.elim
  | own l => exact p1.elim
  | dat d =>
    cases d <;> try exact p1.elim
    rename_i ds
    have o1 : Dp X.K g1.F v (.list ds) := o1
    cases o1 with
    | lst hs ha =>
      refine ⟨_, rfl, ⟨_, r1.ex.seq hs⟩, k _ c1 g1 H1 _ p1 m1 r1 ⟨_, _, by rw [← DpAll.len ha]; exact walk_list, fun g' H' m e => e.seq (m.seq hs), fun i H2 x2 H3 d2 e y => ?_⟩⟩
      obtain ⟨rfl, hx⟩ := y
      obtain ⟨d3, e3, h3⟩ := DpAll.getV ha hx
      rw [e] at e3
      cases e3
      exact .inl ⟨rfl, h3⟩
theorem dw_tup (h : DPE X E a da) : DPI X E tg a (wT da) := by
  refine pi_imp (pi_tup h) fun σ H R h => ?_
  obtain ⟨g, env, c, P, rel, q, k⟩ := h
  refine ⟨g, env, c, _, rel, q, fun x c1 g1 H1 v p1 m1 r1 o1 f1 => ?_⟩
  cases x with
  | deck => exact p1.elim
  | own l => exact p1.elim
  | dat d =>
    cases d <;> try exact p1.elim
    rename_i ds
    have o1 : Dp X.K g1.F v (.tuple ds) := o1
    cases o1 with
    | tup hs ha =>
      refine ⟨_, rfl, ⟨_, seqT r1.ex hs⟩, k _ c1 g1 H1 _ p1 m1 r1 ⟨_, _, by rw [← DpAll.len ha]; exact walk_tup, fun g' H' m e => seqT e (seqT m hs), fun i H2 x2 H3 d2 e y => ?_⟩⟩
      obtain ⟨rfl, hx⟩ := y
      obtain ⟨d3, e3, h3⟩ := DpAll.getV ha hx
      rw [e] at e3
      cases e3
      exact .inl ⟨rfl, h3⟩
theorem dw_r1 (ha : DPA X E [a] dr) (hm : X.mg "range" = none) (hg : Gl X "range" := by rfl) (hs : starEach [a] X.env = [(false, eval a X.env)] := by rfl) : DPI X E tg (.Call (.Name "range" p) [a] [] pos) (wR1 dr) := by
  refine pi_imp (pi_range1 hg hm ha hs) fun σ H R h => ?_
  obtain ⟨g, env, c, P, rel, q, k⟩ := h
  refine ⟨g, env, c, _, rel, q, fun xs c1 g1 H1 vs p1 m1 r1 o1 f1 => ?_⟩
  obtain ⟨ds, h1, h2⟩ := datsK_all o1 p1
  split at h1
  · cases h2 with
    | cons h3 t =>
      cases t
      exact ⟨_, by rw [dp_int h3], h1.1, h1.2.1, k _ c1 g1 H1 _ h1.2.2 m1 r1 walkD_range⟩
  · exact h1.elim
theorem dw_r2 (ha : DPA X E [a, b] dr) (hm : X.mg "range" = none) (hg : Gl X "range" := by rfl) (hs : starEach [a, b] X.env = [(false, eval a X.env), (false, eval b X.env)] := by rfl) (hs2 : starEach [b] X.env = [(false, eval b X.env)] := by rfl) : DPI X E tg (.Call (.Name "range" p) [a, b] [] pos) (wR2 dr) := by
  refine pi_imp (pi_range2 hg hm ha hs hs2) fun σ H R h => ?_
  obtain ⟨g, env, c, P, rel, q, k⟩ := h
  refine ⟨g, env, c, _, rel, q, fun xs c1 g1 H1 vs p1 m1 r1 o1 f1 => ?_⟩
  obtain ⟨ds, h1, h2⟩ := datsK_all o1 p1
  split at h1
  · cases h2 with
    | cons h3 t =>
      cases t with
      | cons h4 t =>
        cases t
        exact ⟨_, _, by rw [dp_int h3, dp_int h4], h1.1, k _ c1 g1 H1 _ h1.2 m1 r1 walkD_range⟩
  · exact h1.elim
end

/-! ### for -/
def forL (dg : DG) (db : DS) (D : DEnds) : List PyData → Ev → Nat → Prop
  | [], env, c => D.nx env c
  | d :: ds, env, c => dg (.dat d) env fun env' => db { nx := forL dg db D ds, ct := forL dg db D ds, bk := D.nx, rt := D.rt } env' c
def sFor (dw : DI) (dg : DG) (db : DS) : DS := fun D env c => dw env c fun items c1 => forL dg db D items env c1
section
variable {X : Cx} {E : En} {tg a : Expr} {pos : Pos}
theorem drop_cons {α : Type} {l : List α} {i : Nat} (h : i < l.length) : l.drop i = l[i] :: l.drop (i + 1) := (List.drop_eq_getElem_cons h)
theorem ds_for {dw : DI} {ws : List Nat} {dg : DG} {db : DS} {body : List Stmt} (hi : DPI X E tg a dw) (hg : DPG X E ws tg dg) (hb : DPSs X E body db) (hp : PassesOwn (model X.prog X.w) X.A X.env X.xe := by exact PassesOwn.never) (hc : X.calm = true := by rfl)
    (hs : ∀ x, foldedSetIterable a X.env x = pure x := by intro _; rfl) : DPS X E (.For tg a body [] pos) (sFor dw dg db) := by
  refine ps_imp (ps_for hp hc hi hg hb hs) fun D σ H h => ?_
  obtain ⟨g, env, c, P, rel, q, k1, k2, k3, k4⟩ := h
  refine ⟨g, env, c, _, rel, q, fun items c1 g1 H1 J p1 m1 r1 wk => ?_⟩
  obtain ⟨G, Y, W, hG, hY⟩ := wk
  refine for_it W (fun i σ' H' => ∃ g' env' c', Same g1.F g'.F ∧ Rel X.K E g' env' c' σ' H' ∧ forL dg db P (items.drop i) env' c') ⟨g1, env, c1, Same.refl _, r1, p1⟩ (fun i σ' H' _ ⟨g', env', c', m, r, _⟩ => hG g' H' m r.ex) (fun i x σ' H' H2 hi hP y => ?_) (fun σ' H' hP => ?_)
  · obtain ⟨g', env', c', m, r, hf⟩ := hP
    rw [drop_cons hi] at hf
    have hd : items[i]? = some items[i] := List.getElem?_eq_getElem hi
    have step : ∃ g2, Mv g' H' g2 H2 ∧ Rel X.K E g2 env' c' σ' H2 ∧ Dp X.K g2.F x items[i] := by
      rcases hY i H' x H2 _ hd y with ⟨rfl, h1⟩ | ⟨T, o, hT, rfl, h1⟩
      · exact ⟨g', Mv.refl g' _, r, dp_mono m h1⟩
      · obtain ⟨r2, m2⟩ := r.new o hT
        exact ⟨_, m2, r2, h1 g'.F m (r.ex.free hT)⟩
    obtain ⟨g2, m2, r2, d2⟩ := step
    refine ⟨g2, env', c', .dat items[i], _, r2, d2, trivial, hf, fun env3 g3 σ3 H3 p3 m3 r3 _ => ⟨g3, env3, c', _, r3, p3, fun env4 c4 g4 σ4 H4 p4 m4 r4 => ?_, fun x4 c4 env4 g4 σ4 H4 v4 p4 m4 r4 => ?_, fun env4 c4 g4 σ4 H4 p4 m4 r4 => ?_, fun env4 c4 g4 σ4 H4 p4 m4 r4 => ?_⟩⟩
    · exact ⟨g4, env4, c4, (m.trans m2.f).trans (m3.f.trans m4), r4, p4⟩
    · exact k2 x4 c4 env4 g4 σ4 H4 v4 p4 (m1.f.trans ((m.trans m2.f).trans (m3.f.trans m4))) r4
    · exact k1 env4 c4 g4 σ4 H4 p4 (m1.f.trans ((m.trans m2.f).trans (m3.f.trans m4))) r4
    · exact ⟨g4, env4, c4, (m.trans m2.f).trans (m3.f.trans m4), r4, p4⟩
  · obtain ⟨g', env', c', m, r, hf⟩ := hP
    rw [List.drop_eq_nil_of_le (Nat.le_refl _)] at hf
    exact k1 env' c' g' σ' H' hf (m1.f.trans m) r
end

/-! ### [e for target in iter if t] -/
def lcL (dg : DG) (dt : DT) (de : DE) (env : Ev) : List PyData → List PyData → Nat → (List PyData → Nat → Prop) → Prop
  | [], acc, c, k => k acc c
  | d :: ds, acc, c, k => dg (.dat d) env fun env' => dt env' c fun b c1 => if b = true then de env' c1 fun x c2 => datK x fun z => lcL dg dt de env ds (acc ++ [z]) c2 k else lcL dg dt de env ds acc c1 k
def dLc (dw : DI) (dg : DG) (dt : DT) (de : DE) (vs : List Nat) : DE := fun env c P => dw env c fun items c1 => items.length < sizeLine ∧ lcL dg dt de (wipeE env vs) items [] c1 fun out c2 => P (.dat (.list out)) c2
def tOn : DT := fun _ c P => P true c
abbrev DPTs (X : Cx) (E : En) (e : List Expr) (dt : DT) : Prop := PTs X e (upT X.K E dt)
section
variable {X : Cx} {E : En} {tg a elt : Expr} {pos : Pos}
theorem dts_nil : DPTs X E [] tOn := by
  refine ⟨fun pins s σ H Q I h => pts_nil.run pins s σ H Q I ?_⟩
  obtain ⟨g, env, c, P, rel, q, k⟩ := h
  exact k true c g H q (Mv.refl g H) rel
theorem dts_one {e : Expr} {t : DT} (h : DPT X E e t) : DPTs X E [e] t := pts_one h
theorem lc_up {K : PySem.W.Frag} {dw : DI} {ws vs : List Nat} {dg : DG} {dt : DT} {de : DE} (hws : ∀ i ∈ ws, i ∈ vs) {σ : L2.St} {H : Hp} {Q : VK} (h : up K E (dLc dw dg dt de vs) σ H Q) : tLc (upI K E dw) (upG K E ws dg) (upT K E dt) (up K E de) vs σ H Q := by
  obtain ⟨g, env, c, P, rel, q, k⟩ := h
  refine ⟨g, env, c, _, rel, q, fun items c1 g1 H1 J p1 m1 r1 wk Dl hD => ?_⟩
  obtain ⟨hlen, p1⟩ := p1
  obtain ⟨G, Y, W, hG, hY⟩ := wk
  have fresh0 : g1.F Dl = none := r1.ex.free hD
  -- the state between two turns: the list at Dl is known to nobody
  have out0 : ∀ {g' : Gh} {H' : Hp}, Mv g1 H1 g' H' → H1 Dl = none → True := fun _ _ => trivial
  have rel0 : Rel K E g1 env c1 σ (upd H1 Dl (.lst [])) ∧ Mv g1 H1 g1 (upd H1 Dl (.lst [])) := by
    have keep : ∀ b o, H1 b = some o → upd H1 Dl (.lst []) b = some o := fun b o e => by
      rw [upd_ne (ne_of_none e hD)]
      exact e
    refine ⟨⟨r1.mo, r1.md, r1.mt, r1.dn, r1.nf, fun b o e n => keep b o (r1.fr b o e n), r1.nw, fun b o e => keep b o (r1.ex b o e), fun i x e => ?_, r1.ap, fun p q e => ?_, r1.len⟩, ⟨Mo.refl _, fun b o e _ => keep b o e, fun b o e => ⟨o, keep b o e⟩, fun b o e => .inl e⟩⟩
    · obtain ⟨v, h1, h2⟩ := r1.sl i x e
      refine ⟨v, h1, ?_⟩
      cases x with
      | dat d => exact h2
      | deck => exact h2
      | own l =>
        obtain ⟨b, xs, e1, h3, h4, h5, h6⟩ := h2
        exact ⟨b, xs, e1, h3, h4, keep b _ h5, h6⟩
    · obtain ⟨h1, h2, h3, ns, h4, h5, h6, h7⟩ := r1.dk p q e
      exact ⟨h1, h2, h3, ns, h4, h5, keep q _ h6, keep p _ h7⟩
  refine lc_it W (fun i H' => ∃ g' c' xs acc, Mv g1 H1 g' H' ∧ g'.F Dl = none ∧ Rel K E g' env c' σ H' ∧ H' Dl = some (.lst xs) ∧ DpAll K g'.F xs acc ∧ acc.length ≤ i ∧ lcL dg dt de (wipeE env vs) (items.drop i) acc c' fun out c2 => P (.dat (.list out)) c2)
    ⟨g1, c1, [], [], rel0.2, fresh0, rel0.1, upd_same, .nil, Nat.le_refl _, p1⟩ (fun i H' _ ⟨g', c', xs, acc, m, _, r, _⟩ => hG g' H' m.f r.ex) (fun i x H' H2 hi hP y => ?_) (fun H' hP => ?_)
  · obtain ⟨g', c', xs, acc, m, fD, r, hl, ha, hle, hf⟩ := hP
    rw [drop_cons hi] at hf
    have hd : items[i]? = some items[i] := List.getElem?_eq_getElem hi
    have nd : ∀ {g3 : Gh} {H3 : Hp}, Mv g' H' g3 H3 → ¬ isDk g3 Dl := fun {g3 H3} m3 z => by
      have z1 : isDk g1 Dl := (m.trans m3).toMo.isDk z
      obtain ⟨o, e⟩ := r1.deckLive z1
      rw [hD] at e
      cases e
    have step : ∃ g2, Mv g' H' g2 H2 ∧ Rel K E g2 env c' σ H2 ∧ Dp K g2.F x items[i] := by
      rcases hY i H' x H2 _ hd y with ⟨rfl, h1⟩ | ⟨T, o, hT, rfl, h1⟩
      · exact ⟨g', Mv.refl g' _, r, dp_mono m.f h1⟩
      · obtain ⟨r2, m2⟩ := r.new o hT
        exact ⟨_, m2, r2, h1 g'.F m.f (r.ex.free hT)⟩
    obtain ⟨g2, m2, r2, d2⟩ := step
    have freshD : ∀ {g3 : Gh} {H3 : Hp}, Mv g' H' g3 H3 → g3.F Dl = none := fun {g3 H3} m3 => by
      cases w : g3.F Dl with
      | none => rfl
      | some o =>
        rcases m3.nf Dl o w with z | z
        · rw [fD] at z
          cases z
        · rw [hl] at z
          cases z
    have atD : ∀ {g3 : Gh} {H3 : Hp}, Mv g' H' g3 H3 → H3 Dl = some (.lst xs) := fun m3 => m3.fr Dl _ hl (nd (Mv.refl g' H'))
    refine ⟨g2, wipeE env vs, c', .dat items[i], _, r2.wipe vs, d2, trivial, hf, fun env3 g3 σ3 H3 p3 m3 r3 a3 => ⟨ag_wipe a3 hws, g3, env3, c', _, r3, p3, fun b c4 g4 H4 p4 m4 r4 => ?_⟩⟩
    cases b with
    | false =>
      refine iteF ⟨g4, c4, xs, acc, m.trans (m2.trans (m3.trans m4)), freshD (m2.trans (m3.trans m4)), r.back r4 (m2.trans (m3.trans m4)), atD (m2.trans (m3.trans m4)), dpAll_mono (m2.trans (m3.trans m4)).f ha, Nat.le_succ_of_le hle, p4⟩
    | true =>
      refine iteT ⟨g4, env3, c4, _, r4, p4, fun x5 c5 g5 H5 v5 p5 m5 r5 o5 f5 => ?_⟩
      have mm : Mv g' H' g5 H5 := m2.trans (m3.trans (m4.trans m5))
      cases x5 with
      | deck => exact p5.elim
      | own l => exact p5.elim
      | dat z =>
        have hlx : xs.length = acc.length := DpAll.len ha
        refine ⟨xs, atD mm, by omega, ?_⟩
        have rb : Rel K E g5 env c5 σ H5 := r.back r5 mm
        have keep : ∀ b o, b ≠ Dl → H5 b = some o → upd H5 Dl (.lst (xs ++ [v5])) b = some o := fun b o n e => by
          rw [upd_ne n]
          exact e
        have fd5 : g5.F Dl = none := freshD mm
        have nf5 : ∀ b o, g5.F b = some o → b ≠ Dl := fun b o e z => by
          rw [z, fd5] at e
          cases e
        refine ⟨g5, c5, xs ++ [v5], acc ++ [z], ?_, fd5, ?_, upd_same, DpAll.app (dpAll_mono mm.f ha) (.cons o5 .nil), by simp; omega, p5⟩
        · refine ⟨(m.trans mm).toMo, fun b o e n => keep b o (ne_of_none e hD) ((m.trans mm).fr b o e n), fun b o e => ?_, (m.trans mm).nf⟩
          obtain ⟨o', e'⟩ := (m.trans mm).lv b o e
          exact ⟨o', keep b o' (ne_of_none e hD) e'⟩
        · have oldD : E.H Dl = none := r1.oldN hD
          refine ⟨rb.mo, rb.md, rb.mt, rb.dn, rb.nf, fun b o e n => keep b o (ne_of_none e oldD) (rb.fr b o e n), rb.nw, fun b o e => keep b o (nf5 b o e) (rb.ex b o e), fun j y e => ?_, rb.ap, fun p q e => ?_, rb.len⟩
          · obtain ⟨v, h1, h2⟩ := rb.sl j y e
            refine ⟨v, h1, ?_⟩
            cases y with
            | dat d => exact h2
            | deck => exact h2
            | own l =>
              obtain ⟨b, ys, e1, h3, h4, h5, h6⟩ := h2
              refine ⟨b, ys, e1, h3, h4, keep b _ (fun z => ?_) h5, h6⟩
              obtain ⟨v', h1', b', ys', e1', h3', h4', h5', h6'⟩ := r1.sl j _ e
              rw [h1] at h1'
              cases h1'
              subst e1
              cases e1'
              rw [z, hD] at h5'
              cases h5'
          · obtain ⟨h1, h2, h3, ns, h4, h5, h6, h7⟩ := rb.dk p q e
            have np : ∀ b, isDk g5 b → b ≠ Dl := fun b hb z => nd mm (z ▸ hb)
            exact ⟨h1, h2, h3, ns, h4, h5, keep q _ (np q ⟨p, q, e, .inr rfl⟩) h6, keep p _ (np p ⟨p, q, e, .inl rfl⟩) h7⟩
  · obtain ⟨g', c', xs, acc, m, fD, r, hl, ha, hle, hf⟩ := hP
    rw [List.drop_eq_nil_of_le (Nat.le_refl _)] at hf
    -- the list is data from now on
    have sF : Same g'.F (upd g'.F Dl (.lst xs)) := fun b o e => by
      rw [upd_ne (ne_of_none e fD)]
      exact e
    have nd : ¬ isDk g' Dl := fun z => by
      obtain ⟨o, e⟩ := r1.deckLive (m.toMo.isDk z)
      rw [hD] at e
      cases e
    have oldD : E.H Dl = none := r1.oldN hD
    refine k (.dat (.list acc)) c' ⟨upd g'.F Dl (.lst xs), g'.dk⟩ H' (.ref Dl) hf ?_ ?_ (.lst (.of upd_same) (dpAll_mono sF ha)) trivial
    · refine ⟨⟨(m1.trans m).f.trans sF, (m1.trans m).d⟩, (m1.trans m).fr, (m1.trans m).lv, fun b o e => ?_⟩
      have e : upd g'.F Dl (.lst xs) b = some o := e
      by_cases hb : b = Dl
      · right
        cases w : H b with
        | none => rfl
        | some o2 =>
          obtain ⟨o3, e3⟩ := m1.lv b o2 w
          rw [hb, hD] at e3
          cases e3
      · rw [upd_ne hb] at e
        exact (m1.trans m).nf b o e
    · refine ⟨r.mo.trans sF, r.md, r.mt, r.dn, fun b o e => ?_, r.fr, r.nw, fun b o e => ?_, fun j y e => ?_, r.ap, fun p q e => ?_, r.len⟩
      · have e : upd g'.F Dl (.lst xs) b = some o := e
        by_cases hb : b = Dl
        · exact .inr (by rw [hb]; exact oldD)
        · rw [upd_ne hb] at e
          exact r.nf b o e
      · have e : upd g'.F Dl (.lst xs) b = some o := e
        by_cases hb : b = Dl
        · subst hb
          rw [upd_same] at e
          rw [hl]
          exact e
        · rw [upd_ne hb] at e
          exact r.ex b o e
      · obtain ⟨v, h1, h2⟩ := r.sl j y e
        refine ⟨v, h1, ?_⟩
        cases y with
        | dat d => exact dp_mono sF h2
        | deck => exact h2
        | own l =>
          obtain ⟨b, ys, e1, h3, h4, h5, h6⟩ := h2
          refine ⟨b, ys, e1, ?_, h4, h5, dpAll_mono sF h6⟩
          show upd g'.F Dl (.lst xs) b = none
          rw [upd_ne fun z => ?_]
          · exact h3
          · obtain ⟨v', h1', b', ys', e1', h3', h4', h5', h6'⟩ := r1.sl j _ e
            rw [h1] at h1'
            cases h1'
            subst e1
            cases e1'
            rw [z, hD] at h5'
            cases h5'
      · obtain ⟨h1, h2, h3, ns, h4, h5, h6, h7⟩ := r.dk p q e
        have np : ∀ b, isDk g' b → b ≠ Dl := fun b hb z => nd (z ▸ hb)
        refine ⟨h1, ?_, ?_, ns, h4, h5, h6, h7⟩
        · show upd g'.F Dl (.lst xs) p = none
          rw [upd_ne (np p ⟨p, q, e, .inl rfl⟩)]
          exact h2
        · show upd g'.F Dl (.lst xs) q = none
          rw [upd_ne (np q ⟨p, q, e, .inr rfl⟩)]
          exact h3
end
end DL
namespace DL
open PySem PySem.Spec PyProof.Rows L2

section
variable {X : Cx} {E : En} {tg a elt : Expr} {pos : Pos}
theorem de_lc {ifs : List Expr} {scope : Scope} (own : List (Str × Nat)) {dw : DI} {ws : List Nat} {dg : DG} {dt : DT} {de : DE} (hN : X.N.Nodup) (hi : DPI X E tg a dw) (ok : BlkOk X.N X.env.scope scope own)
    (hg : ∀ (s : Shared) (H : Hp) (C : Addr) (cl : List (Str × Addr)) (fp : List Addr), DPG (X.blk s H scope (compEnvC scope cl C X.env) fp) E ws tg dg)
    (ht : ∀ (s : Shared) (H : Hp) (C : Addr) (cl : List (Str × Addr)) (fp : List Addr), DPTs (X.blk s H scope (compEnvC scope cl C X.env) fp) E ifs dt)
    (he : ∀ (s : Shared) (H : Hp) (C : Addr) (cl : List (Str × Addr)) (fp : List Addr), DPE (X.blk s H scope (compEnvC scope cl C X.env) fp) E elt de)
    (hws : ∀ i ∈ ws, i ∈ own.map (·.2) := by decide) (hc : X.calm = true := by rfl) (hs : ∀ x, foldedSetIterable a X.env x = pure x := by intro _; rfl) :
    DPE X E (.ListComp elt [⟨tg, a, ifs, 0⟩] scope pos) (dLc dw dg dt de (own.map (·.2))) :=
  pe_imp (pe_lc hc hN hi ok hg ht he hs) fun _ _ _ h => lc_up hws h
/-- y = [..] -/
theorem ds_setLc {ifs : List Expr} {scope : Scope} {spos py : Pos} {y : Str} (i : Nat) (own : List (Str × Nat)) {dw : DI} {ws : List Nat} {dg : DG} {dt : DT} {de : DE} (hN : X.N.Nodup) (hi : DPI X E tg a dw) (ok : BlkOk X.N X.env.scope scope own)
    (hg : ∀ (s : Shared) (H : Hp) (C : Addr) (cl : List (Str × Addr)) (fp : List Addr), DPG (X.blk s H scope (compEnvC scope cl C X.env) fp) E ws tg dg)
    (ht : ∀ (s : Shared) (H : Hp) (C : Addr) (cl : List (Str × Addr)) (fp : List Addr), DPTs (X.blk s H scope (compEnvC scope cl C X.env) fp) E ifs dt)
    (he : ∀ (s : Shared) (H : Hp) (C : Addr) (cl : List (Str × Addr)) (fp : List Addr), DPE (X.blk s H scope (compEnvC scope cl C X.env) fp) E elt de)
    (hsw : swapsWith (.ListComp elt [⟨tg, a, ifs, 0⟩] scope pos) (some (.Name y py)) spos.line X.env = pure true)
    (hws : ∀ i ∈ ws, i ∈ own.map (·.2) := by decide) (hy : X.N[i]? = some y := by rfl) (hyl : X.env.scope.names.lookup y = some .local := by rfl) (hc : X.calm = true := by rfl) (hs : ∀ x, foldedSetIterable a X.env x = pure x := by intro _; rfl) :
    DPS X E (.Assign [.Name y py] (.ListComp elt [⟨tg, a, ifs, 0⟩] scope pos) spos) (sAsg (dLc dw dg dt de (own.map (·.2))) (gNm i)) := by
  refine ps_imp (ps_setLc (g := upG X.K E ws dg) (tt := upT X.K E dt) (te := up X.K E de) hc hN hy hyl hsw hi ok hg ht he hs) fun D σ H h => ?_
  have h2 := asgN_up h
  exact lc_up hws h2
end

/-! ### defs, called where no repr is under way -/
structure FnG (P : Program) (w : World) (K : PySem.W.Frag) (mg : Str → Option Value) (base : Heap) (k : Nat) (f : Addr) (fd : FuncData) (ps : List Str) (sp : Sp) : Prop where
  len : ∀ vs H Q E, sp vs H Q E → vs.length = ps.length
  run : ∀ (A : Around) (outer : List Env) (s : Shared) (H : Hp) (us : List Value) (vs : List V) (Q : VK), Room k A → A.guards = some [] → Env0 P w K mg base A outer s H → BindsTo s fd ⟨us, []⟩ (ps.zip us) → Vals vs us → sp vs H Q E0 →
    codeAny (model P w) A (.call (.ref f) ⟨us, []⟩) (CR CX0 outer P w H s Q E0) s
theorem FnG.mono {P : Program} {w : World} {K : PySem.W.Frag} {mg : Str → Option Value} {base : Heap} {j k : Nat} {f : Addr} {fd : FuncData} {ps : List Str} {sp : Sp} (F : FnG P w K mg base j f fd ps sp) (h : j ≤ k) : FnG P w K mg base k f fd ps sp :=
  ⟨F.len, fun A outer s H us vs Q hr => F.run A outer s H us vs Q (hr.mono h)⟩
section
variable {P : Program} {w : World} {K : PySem.W.Frag} {mg : Str → Option Value} {base : Heap}
theorem fnG_of {x qual : Str} {st : Stmt} {f : Addr} {fd : FuncData} {N ps : List Str} {k : Nat} {sp : Sp} (F : Fun K x qual st f fd) (S : FnScope N ps (defScope st)) (len : ∀ vs H Q E, sp vs H Q E → vs.length = ps.length)
    (hb : ∀ (cdv : Value) (A : Around) (outer : List Env) (s : Shared) (H : Hp) (vs : List V) (Q : VK), Room k (A.deeper (envOfC qual (defScope st) s.heap.objs.size f cdv)) → A.guards = some [] → sp vs H Q E0 →
      ∃ t, PSs (cxOf CX0 P w K mg base N qual (defScope st) f cdv A outer s H E0).nox (defBody st) t ∧ t { nx := fun _ H' => Q .non H', rt := Q } (start N vs) H) : FnG P w K mg base (k + 1) f fd ps sp := by
  obtain ⟨oc, od, kV, doc, pm, an, cdv, ct, osl, rfl, lk, hcd⟩ := F.ex
  refine ⟨len, fun A outer s H us vs Q room quiet env0 bind vals want => ?_⟩
  have inK := env0.mod.kin.keeps fun b o e => (env0.bs b o e).1
  have nolim := env0.mod.nolimit.keeps fun b o e => (env0.bs b o e).1
  refine codeAny_call_function room.depth (inK _ _ lk) rfl S.co S.gen rfl (PySem.W.codeRec_of inK hcd) (bind _ _ _ _ ?_)
  refine wpAny_newFunctionEnv_cells S.kind (fun y hy => ?_) fun env he s1 ic => ?_
  · rcases S.par y.1 (List.of_mem_zip (a := y.1) (b := y.2) hy).1 with q | q
    · exact Or.inl q
    · exact Or.inr ⟨q, PySem.W.cellsFrom_some _ _ _ (Or.inl q)⟩
  · subst he
    refine ⟨nolim.keeps ic.toInCall.keep, codeAny_func ?_⟩
    obtain ⟨t, derivation, reading⟩ := hb cdv A outer s H vs Q (room.deeper _) quiet want
    have J0 := inv_start (CX := CX0) (E := E0) (P := P) (w := w) (mg := mg) S room.hd env0 (len _ _ _ _ want) vals ic
    refine wpAny_mono (derivation.nox.run [] s1 (start N vs) H _ J0 reading) (fun fl s' done => ?_) (fun e s' bad => bad)
    cases fl with
    | next =>
      obtain ⟨σ', H', J, q⟩ := done
      exact ⟨V.non, H', J.os, J.bare, J.base, J.hok, rfl, q⟩
    | ret u =>
      obtain ⟨v, σ', H', J, rv, q⟩ := done
      exact ⟨v, H', J.os, J.bare, J.base, J.hok, rv, q⟩
    | brk =>
      obtain ⟨σ', H', J, q⟩ := done
      exact False.elim q
    | cont =>
      obtain ⟨σ', H', J, q⟩ := done
      exact False.elim q
end
section
variable {X : Cx} {k : Nat} {f : Addr} {fd : FuncData} {ps : List Str} {sp : Sp} {x : Str} {p pos : Pos} {e : Expr} {es : List Expr} {t : TA}
theorem pe_callG (F : FnG X.prog X.w X.K X.mg X.base k f fd ps sp) (hr : Room k X.A) (hgd : X.A.guards = some []) (hg : Gl X x) (hm : X.mg x = some (.ref f)) (hk : PySem.W.keepIn X.K (.ref f) = true) (hb : Binds X.K fd ps []) (ha : PA X (e :: es) t)
    (hdb : (x == ("__debug__" : Str)) = false := by decide) (he : starEach (e :: es) X.env = (false, eval e X.env) :: starEach es X.env := by rfl) (hpl : (backTo pos (starEach es X.env)).any (·.1) = false := by rfl) :
    PE X (.Call (.Name x p) (e :: es) [] pos) (tCall sp [] E0 t) := by
  constructor
  intro pins s σ H Q I h
  refine wpAny_Call_Name_kw (ld_glob I hg hm (PySem.W.callWith_K (h₀ := X.base) I.ok.mod.kin hk ?_ he hpl) hdb)
  refine thn (ha.run pos pins s σ H _ I h) fun us s1 hq => ?_
  obtain ⟨vs, H1, I1, r, q⟩ := hq
  have q2 : sp vs H1 Q E0 := by
    have q3 : sp (vs ++ []) H1 Q E0 := q
    rwa [List.append_nil] at q3
  have hl : us.length = ps.length := by
    rw [← r.length]
    exact F.len _ _ _ _ q2
  have hbd := hb s1 us I1.kIn (by rw [List.append_nil]; exact hl)
  rw [List.append_nil] at hbd
  refine ⟨I1.kIn, wpAny_call (codeAny_mono (F.run X.A X.stack s1 H1 us vs Q hr hgd I1.env0 hbd r q2) fun rr s' hrr => ?_)⟩
  match rr, hrr with
  | .error _, z => exact z.elim
  | .ok .next, z => exact z.elim
  | .ok .brk, z => exact z.elim
  | .ok .cont, z => exact z.elim
  | .ok (.ret u), z => exact I1.after z
end

/-! ### promises over data -/
abbrev Spec := List Vl → Nat → (Vl → Nat → Prop) → Prop
def spD (K : PySem.W.Frag) (n : Nat) (spec : Spec) : Sp := fun vs H Q _ => ∃ g c args P, Same g.F H ∧ DeckOk g H c ∧ VOks K g H vs args ∧ (∀ x ∈ args, free x) ∧ args.length = n ∧ spec args c P ∧
  ∀ x c' g' H' v, P x c' → Mv g H g' H' → Same g'.F H' → DeckOk g' H' c' → VOk K g' H' v x → free x → Q v H'
theorem VOks.len {K : PySem.W.Frag} {g : Gh} {H : Hp} : ∀ {vs : List V} {xs : List Vl}, VOks K g H vs xs → vs.length = xs.length
  | [], [], _ => rfl
  | v :: vs, x :: xs, h => by simp [VOks.len h.2]
  | [], _ :: _, h => h.elim
  | _ :: _, [], h => h.elim
theorem VOks.at {K : PySem.W.Frag} {g : Gh} {H : Hp} : ∀ {vs : List V} {xs : List Vl} {i : Nat} {x : Vl}, VOks K g H vs xs → xs[i]? = some x → ∃ v, vs[i]? = some v ∧ VOk K g H v x
  | [], [], _, _, _, e => by simp at e
  | v :: vs, y :: xs, 0, x, h, e => by
    simp at e
    subst e
    exact ⟨v, rfl, h.1⟩
  | v :: vs, y :: xs, i + 1, x, h, e => by
    obtain ⟨u, h1, h2⟩ := VOks.at (i := i) (x := x) h.2 (by simpa using e)
    exact ⟨u, by simpa using h1, h2⟩
  | [], _ :: _, _, _, h, _ => h.elim
  | _ :: _, [], _, _, h, _ => h.elim
/-- behind a call -/
theorem Rel.call {K : PySem.W.Frag} {E : En} {g g' : Gh} {env : Ev} {c c' : Nat} {σ : L2.St} {H H' : Hp} (r : Rel K E g env c σ H) (m : Mv g H g' H') (ex : Same g'.F H') (dk : DeckOk g' H' c') : Rel K E g' env c' σ H' := by
  have key : ∀ a o, E.H a = some o → ¬ isDk E.g a → ¬ isDk g a := fun a o e n z => by
    rcases r.dn a z with w | w
    · exact n w
    · rw [e] at w
      cases w
  refine ⟨r.mo.trans m.f, fun h => m.d.trans (r.md h), r.mt, fun a h => r.dn a (m.toMo.isDk h), fun a o e => ?_, fun a o e n => m.fr a o (r.fr a o e n) (key a o e n), r.nw, ex, fun i x e => ?_, r.ap, dk, r.len⟩
  · rcases m.nf a o e with h | h
    · exact r.nf a o h
    · exact Or.inr (r.oldN h)
  · obtain ⟨v, h1, h2⟩ := r.sl i x e
    refine ⟨v, h1, ?_⟩
    cases x with
    | dat d => exact dp_mono m.f h2
    | deck =>
      obtain ⟨p, q, e, z⟩ := h2
      exact ⟨p, q, by rw [m.d]; exact e, z⟩
    | own l =>
      obtain ⟨a, xs, rfl, h3, h4, h5, h6⟩ := h2
      refine ⟨a, xs, rfl, ?_, fun z => h4 (m.toMo.isDk z), m.fr a _ h5 h4, dpAll_mono m.f h6⟩
      cases q : g'.F a with
      | none => rfl
      | some o =>
        rcases m.nf a o q with w | w
        · rw [h3] at w
          cases w
        · rw [h5] at w
          cases w
section
variable {X : Cx} {E : En} {k n : Nat} {f : Addr} {fd : FuncData} {ps : List Str} {spec : Spec} {x : Str} {p pos : Pos} {e : Expr} {es : List Expr} {dr : DA}
/-- what a caller holds of a def -/
structure Def (P : Program) (w : World) (K : PySem.W.Frag) (mg : Str → Option Value) (base : Heap) (k : Nat) (x : Str) (n : Nat) (spec : Spec) : Prop where
  ex : ∃ f fd ps, FnG P w K mg base k f fd ps (spD K n spec) ∧ mg x = some (.ref f) ∧ PySem.W.keepIn K (.ref f) = true ∧ Binds K fd ps []
theorem de_call (F : Def X.prog X.w X.K X.mg X.base k x n spec) (hr : Room k X.A) (hgd : X.A.guards = some []) (ha : DPA X E (e :: es) dr) (hn : (e :: es).length = n := by rfl) (hg : Gl X x := by rfl)
    (hdb : (x == ("__debug__" : Str)) = false := by decide) (he : starEach (e :: es) X.env = (false, eval e X.env) :: starEach es X.env := by rfl) (hpl : (backTo pos (starEach es X.env)).any (·.1) = false := by rfl) :
    DPE X E (.Call (.Name x p) (e :: es) [] pos) (dCall (fun xs c P => xs.length = n ∧ spec xs c P) dr) := by
  obtain ⟨f, fd, ps, F, hm, hk, hb⟩ := F.ex
  refine pe_imp (pe_callG F hr hgd hg hm hk hb ha hdb he hpl) fun σ H Q h => ?_
  obtain ⟨g, env, c, P, rel, q, kk⟩ := h
  refine ⟨g, env, c, _, rel, q, fun xs c1 g1 H1 vs p1 m1 r1 o1 f1 => ?_⟩
  show spD X.K n spec (vs ++ []) H1 Q E0
  rw [List.append_nil]
  exact ⟨g1, c1, xs, P, r1.ex, r1.dk, o1, f1, p1.1, p1.2, fun y c2 g2 H2 v p2 m2 ex dk ok fr => kk y c2 g2 H2 v p2 (m1.trans m2) (r1.call m2 ex dk) ok fr⟩
end
/-- the slots at the entry -/
def startE (N : Nat) (args : List Vl) : Ev := args.map some ++ List.replicate (N - args.length) none
def bodySpec (N : Nat) (dt : DS) : Spec := fun args c P => dt { nx := fun _ c' => P (.dat .none) c', rt := P, bk := fun _ _ => False, ct := fun _ _ => False } (startE N args) c
theorem start_rel {K : PySem.W.Frag} {g : Gh} {c : Nat} {N : List Str} {vs : List V} {args : List Vl} {H : Hp} (ex : Same g.F H) (dk : DeckOk g H c) (ok : VOks K g H vs args) (fr : ∀ x ∈ args, free x) : Rel K ⟨g, H, false⟩ g (startE N.length args) c (start N vs) H := by
  have hl := VOks.len ok
  have key : ∀ (i : Nat) (x : Vl), (startE N.length args)[i]? = some (some x) → args[i]? = some x := fun i x e => by
    unfold startE at e
    by_cases hi : i < args.length
    · rw [List.getElem?_append_left (by simpa using hi), List.getElem?_map] at e
      cases q : args[i]? with
      | none => rw [q] at e; cases e
      | some y => rw [q] at e; cases e; rfl
    · rw [List.getElem?_append_right (by simpa using hi), List.getElem?_replicate] at e
      split at e <;> cases e
  have noown : ∀ (i : Nat) (l : List PyData), (startE N.length args)[i]? ≠ some (some (Vl.own l)) := fun i l e => fr _ (List.mem_of_getElem? (key i _ e))
  refine ⟨Same.refl _, fun _ => rfl, (fun z => by cases z), fun a h => Or.inl h, fun a o h => Or.inl h, fun a o e _ => e, fun i l e => absurd e (noown i l), ex, fun i x e => ?_, fun i j li lj a _ e => absurd e (noown i li), dk, by simp [startE, L2.start, hl]⟩
  have e2 := key i x e
  obtain ⟨v, h1, h2⟩ := VOks.at ok e2
  refine ⟨v, ?_, h2⟩
  unfold L2.start
  have hi : i < vs.length := (List.getElem?_eq_some_iff.mp h1).1
  rw [List.getElem?_append_left (by simpa using hi), List.getElem?_map, h1]
  rfl
section
variable {P : Program} {w : World} {K : PySem.W.Frag} {mg : Str → Option Value} {base : Heap}
/-- the context of a def's body -/
abbrev bodyCx (P : Program) (w : World) (K : PySem.W.Frag) (mg : Str → Option Value) (base : Heap) (N : List Str) (qual : Str) (st : Stmt) (f : Addr) (cdv : Value) (A : Around) (outer : List Env) (s : Shared) (H : Hp) : Cx :=
  (cxOf CX0 P w K mg base N qual (defScope st) f cdv A outer s H E0).nox
theorem def_of {x qual : Str} {st : Stmt} {f : Addr} {fd : FuncData} {N ps : List Str} {k n : Nat} {dt : DS} (F : Fun K x qual st f fd) (S : FnScope N ps (defScope st)) (hm : mg x = some (.ref f)) (hb : Binds K fd ps []) (hn : ps.length = n)
    (h : ∀ (cdv : Value) (A : Around) (outer : List Env) (s : Shared) (H : Hp) (E : En), Room k (A.deeper (envOfC qual (defScope st) s.heap.objs.size f cdv)) → (A.deeper (envOfC qual (defScope st) s.heap.objs.size f cdv)).guards = some [] →
      DPSs (bodyCx P w K mg base N qual st f cdv A outer s H) E (defBody st) dt) : Def P w K mg base (k + 1) x n (bodySpec N.length dt) := by
  refine ⟨f, fd, ps, fnG_of F S (fun vs H Q E q => ?_) (fun cdv A outer s H vs Q hr hgd q => ?_), hm, F.kp, hb⟩
  · obtain ⟨g, c, args, P, _, _, ok, _, hl, _⟩ := q
    rw [VOks.len ok, hl, hn]
  · obtain ⟨g, c, args, P', ex, dk, ok, fr, hl, hs, kk⟩ := q
    refine ⟨_, h cdv A outer s H ⟨g, H, false⟩ hr hgd, g, _, c, _, start_rel ex dk ok fr, hs, fun env' c' g' σ' H' p m r => ?_, fun y c' env' g' σ' H' v p m r o f => ?_, fun _ _ _ _ _ p => p.elim, fun _ _ _ _ _ p => p.elim⟩
    · exact kk _ c' g' H' .non p ⟨⟨r.mo, r.md rfl⟩, r.fr, fun a o e => r.old e, r.nf⟩ r.ex r.dk .non trivial
    · exact kk y c' g' H' v p ⟨⟨r.mo, r.md rfl⟩, r.fr, fun a o e => r.old e, r.nf⟩ r.ex r.dk o f
end
end DL
namespace DL
open PySem PySem.Spec PyProof.Rows L2

/-! ### the deck -/
def drawSpec : Spec := fun args c P => match args with
  | [.deck, .dat (.int m)] => 0 < m ∧ m < 1073741824 ∧ c < 1000000000 ∧ ∀ r : Int, 0 ≤ r → r < m → P (.dat (.int r)) (c + 1)
  | _ => False
/-- the deck behind a draw -/
theorem deck_after {g : Gh} {H H' : Hp} {c : Nat} {p q : Addr} {ns : List Int} (ex : Same g.F H) (hd : g.dk = some (p, q)) (hpq : p ≠ q) (fp : g.F p = none) (fq : g.F q = none) (hs : ∀ b o, b ≠ p → b ≠ q → H b = some o → H' b = some o)
    (h0 : ∀ n ∈ ns, 0 ≤ n) (h1 : ns.length ≤ 63) (hq : H' q = some (.lst (ns.map V.int))) (hp : H' p = some (.lst [.ref q, .int (c : Int)])) : Mv g H g H' ∧ Same g.F H' ∧ DeckOk g H' c := by
  refine ⟨⟨Mo.refl g, fun a o e n => ?_, fun a o e => ?_, fun a o e => .inl e⟩, fun a o e => ?_, fun p' q' e => ?_⟩
  · exact hs a o (fun z => n ⟨p, q, hd, .inl z⟩) (fun z => n ⟨p, q, hd, .inr z⟩) e
  · by_cases z : a = p
    · exact ⟨_, by rw [z]; exact hp⟩
    · by_cases z2 : a = q
      · exact ⟨_, by rw [z2]; exact hq⟩
      · exact ⟨o, hs a o z z2 e⟩
  · exact hs a o (ne_of_none e fp) (ne_of_none e fq) (ex a o e)
  · rw [hd] at e
    cases e
    exact ⟨hpq, fp, fq, ns, h0, h1, hq, hp⟩
/-- what _law_deck hands back -/
def spDeck (K : PySem.W.Frag) : Sp := fun vs H Q _ => ∃ (a : Addr) (ns : List Int), vs = [.ref a] ∧ SqL K H a (ns.map V.int) ∧ ns.length ≤ 63 ∧
  ∀ H' p q (ms : List Int), Same H H' → H p = none → H q = none → p ≠ q → (∀ n ∈ ms, 0 ≤ n) → ms.length ≤ 63 → H' q = some (.lst (ms.map V.int)) → H' p = some (.lst [.ref q, .int 0]) → Q (.ref p) H'
/-- deck = _law_deck(script): the script stands in slot j -/
def plain : Option Vl → Prop
  | some (.dat _) => True
  | none => True
  | _ => False
def sDeck (i j : Nat) : DS := fun D env c => (∃ ns : List Int, ns.length ≤ 63 ∧ env[j]? = some (some (.dat (.list (ns.map PyData.int))))) ∧ (∀ x ∈ env, plain x) ∧ D.nx (env.set i (some .deck)) 0
theorem dp_ints {K : PySem.W.Frag} {F : Hp} : ∀ {xs : List V} {ns : List Int}, DpAll K F xs (ns.map PyData.int) → xs = ns.map V.int := fun {xs ns} h => intsOf_dp (intsOf_map ns) h
theorem ds_deck {X : Cx} {E : En} {k : Nat} {f : Addr} {fd : FuncData} {ps : List Str} {x y z : Str} {p1 p2 p3 p4 p5 : Pos} (i j : Nat) (F : FnG X.prog X.w X.K X.mg X.base k f fd ps (spDeck X.K)) (hr : Room k X.A) (hgd : X.A.guards = some []) (hm : X.mg x = some (.ref f)) (hk : PySem.W.keepIn X.K (.ref f) = true) (hb : Binds X.K fd ps [])
    (hN : X.N.Nodup) (ht : E.top = true) (hj : PE X (.Name z p3) (tVar j)) (hg : Gl X x := by rfl) (hi : X.N[i]? = some y := by rfl) (hx : Loc X.env.scope y := by first | exact Or.inl rfl | exact Or.inr rfl)
    (hdb : (x == ("__debug__" : Str)) = false := by decide) (he : starEach [.Name z p3] X.env = (false, eval (.Name z p3) X.env) :: starEach [] X.env := by rfl) (hpl : (backTo p4 (starEach [] X.env)).any (·.1) = false := by rfl)
    (hs : swapsWith (.Call (.Name x p2) [.Name z p3] [] p4) (some (.Name y p1)) p5.line X.env = pure false := by rfl) (hf : X.fn y = true ∨ X.env.scope.names.lookup y = some .local := by first | exact .inl rfl | exact .inr rfl | assumption) :
    DPS X E (.Assign [.Name y p1] (.Call (.Name x p2) [.Name z p3] [] p4) p5) (sDeck i j) := by
  refine ps_imp (ps_set hN hi hx (pe_callG F hr hgd hg hm hk hb (pa_cons hj pa_nil he) hdb he hpl) hs hf) fun D σ H h => ?_
  obtain ⟨g, env, c, P, rel, ⟨⟨ns, hlen, hv⟩, hpl, q⟩, k1, _⟩ := h
  obtain ⟨v, e1, o1⟩ := rel.sl j _ hv
  have o1 : Dp X.K g.F v (.list (ns.map PyData.int)) := o1
  cases o1 with
  | lst hsq ha =>
    have ex := dp_ints ha
    subst ex
    refine ⟨_, e1, ?_⟩
    refine ⟨_, ns, rfl, rel.ex.seq hsq, hlen, fun H' p q' ms sm hp hq hpq h0 h63 hq' hp' => k1 _ 0 ⟨g.F, some (p, q')⟩ _ H' q (Same.refl _) ?_⟩
    have exF : Same g.F H' := rel.ex.trans sm
    have notown : ∀ (n : Nat) (l : List PyData), (env.set i (some Vl.deck))[n]? ≠ some (some (Vl.own l)) := fun n l e => by
      rcases set_get e with ⟨_, _, z⟩ | ⟨_, z⟩
      · cases z
      · exact hpl _ (List.mem_of_getElem? z)
    refine ⟨rel.mo, (fun z => by rw [ht] at z; cases z), rel.mt, fun a hd => .inr ?_, rel.nf, fun a o e n => sm a o (rel.fr a o e n), fun n l e => absurd e (notown n l), exF, fun n y2 e => ?_, fun n m ln lm a _ e => absurd e (notown n ln), fun p2 q2 e => ?_, by simpa using rel.len⟩
    · obtain ⟨u, v2, e, z⟩ := hd
      cases e
      rcases z with rfl | rfl
      · exact rel.oldN hp
      · exact rel.oldN hq
    · rcases set_get e with ⟨rfl, hl, rfl⟩ | ⟨ne, e2⟩
      · exact ⟨.ref p, by rw [List.getElem?_set_self (by rw [← rel.len]; exact hl)], p, q', rfl, rfl⟩
      · obtain ⟨u, h1, h2⟩ := rel.sl n y2 e2
        refine ⟨u, by rw [List.getElem?_set_ne (Ne.symm ne)]; exact h1, ?_⟩
        cases y2 with
        | dat d => exact h2
        | deck => exact (hpl _ (List.mem_of_getElem? e2)).elim
        | own l => exact (hpl _ (List.mem_of_getElem? e2)).elim
    · cases e
      exact ⟨hpq, rel.ex.free hp, rel.ex.free hq, ms, h0, h63, hq', hp'⟩

/-! ### the law's end -/
section
variable {P : Program} {w : World} {K : PySem.W.Frag} {mg : Str → Option Value} {base : Heap}
/-- the law's own frame: it begins with the script, no deck yet -/
def spTop (K : PySem.W.Frag) (spec : Spec) : Sp := fun vs H Q _ => ∃ (a : Addr) (ns : List Int) (P : Vl → Nat → Prop), vs = [.ref a] ∧ SqL K H a (ns.map V.int) ∧ ns.length ≤ 63 ∧ spec [.dat (.list (ns.map PyData.int))] 0 P ∧ ∀ x c' g' H' v, P x c' → VOk K g' H' v x → free x → Q v H'
theorem dpAll_ints {K : PySem.W.Frag} {F : Hp} : ∀ ns : List Int, DpAll K F (ns.map V.int) (ns.map PyData.int)
  | [] => .nil
  | n :: r => .cons (.int n) (dpAll_ints r)
theorem top_of {x qual : Str} {st : Stmt} {f : Addr} {fd : FuncData} {N ps : List Str} {k : Nat} {dt : DS} (F : Fun K x qual st f fd) (S : FnScope N ps (defScope st)) (hn : ps.length = 1)
    (h : ∀ (cdv : Value) (A : Around) (outer : List Env) (s : Shared) (H : Hp) (E : En), E.top = true → Room k (A.deeper (envOfC qual (defScope st) s.heap.objs.size f cdv)) → (A.deeper (envOfC qual (defScope st) s.heap.objs.size f cdv)).guards = some [] →
      DPSs (bodyCx P w K mg base N qual st f cdv A outer s H) E (defBody st) dt) : FnG P w K mg base (k + 1) f fd ps (spTop K (bodySpec N.length dt)) := by
  refine fnG_of F S (fun vs H Q E q => ?_) (fun cdv A outer s H vs Q hr hgd q => ?_)
  · obtain ⟨a, ns, P, rfl, _⟩ := q
    rw [hn]
    rfl
  · obtain ⟨a, ns, P', rfl, hs, hl, hsp, kk⟩ := q
    have ok : VOks K ⟨H, none⟩ H [.ref a] [.dat (.list (ns.map PyData.int))] := ⟨.lst hs (dpAll_ints ns), trivial⟩
    have r0 := start_rel (K := K) (g := ⟨H, none⟩) (c := 0) (N := N) (Same.refl H) (fun p q e => by cases e) ok (fun y hy => by rw [List.mem_singleton] at hy; subst hy; trivial)
    have r1 : Rel K ⟨⟨H, none⟩, H, true⟩ ⟨H, none⟩ (startE N.length [.dat (.list (ns.map PyData.int))]) 0 (L2.start N [.ref a]) H := ⟨r0.mo, (fun z => by cases z), fun _ => rfl, r0.dn, r0.nf, r0.fr, r0.nw, r0.ex, r0.sl, r0.ap, r0.dk, r0.len⟩
    exact ⟨_, h cdv A outer s H ⟨⟨H, none⟩, H, true⟩ rfl hr hgd, _, _, _, _, r1, hsp, fun env' c' g' σ' H' p m r => kk _ c' g' H' .non p .non trivial, fun y c' env' g' σ' H' v p m r o f => kk y c' g' H' v p o f, fun _ _ _ _ _ p => p.elim, fun _ _ _ _ _ p => p.elim⟩
end
end DL
namespace DL
open PySem PySem.Spec PyProof.Rows L2

/-! ### the call of the law, where no repr is under way -/
section
variable {P : Program} {w : World} {K : PySem.W.Frag} {mg mb : Str → Option Value} {k : Nat} {fa a : Addr} {fd : FuncData} {x : Str} {sp : Sp} {s : Shared} {vs : List Value} {ns : List Int}
/-- over one abstract heap: at most the script is told, and locked -/
theorem end_at (KX : K.In s.heap) (hns : s.heap.Ns mainGlobals mg) (hb : s.heap.Ns builtinsNs mb) (hbb : ∀ y : Str, y ≠ "__name__" → mb y = bootBuiltins y) (hlim : s.heap.NoLimit) (hg : s.gens = #[])
    (sc : s.heap.get? a = some { cls := .type "list", data := .seq vs.toArray }) (hr : Room k callerA)
    (F : ∀ base : Heap, K.In base → base.Ns mainGlobals mg → FnG P w K mg base k fa fd [x] sp) (bd : ∀ (s : Shared) (u : Value), BindsTo s fd ⟨[u], []⟩ [(x, u)])
    (H : Hp) (only : Only H) (sq : sp [.ref a] H (fun v _ => v = .bl true) E0) (ok : HOk P w H s.heap) (alone : ∀ b o, H b = some o → b = a) (away : ∀ o, H a = some o → K.lookup a = none) :
    codeAny (model P w) callerA (.call (.ref fa) ⟨[.ref a], []⟩) (fun r s' => r = .ok (.ret (.bool true)) ∧ OldK s.heap s'.heap ∧ s'.os = s.os ∧ AllBare s'.gens) s := by
  -- what is no list is not told
  have quiet : ∀ {b : Addr} {ob : Obj} {es : Array DictEntry} {ep : Nat}, s.heap.get? b = some ob → ob.data = .dict es ep → H b = none := by
    intro b ob es ep e de
    cases hb' : H b with
    | none => rfl
    | some u =>
      rw [alone b u hb', sc] at e
      cases e
      cases de
  have nsOf : ∀ {b : Addr} {m : Str → Option Value}, s.heap.Ns b m → (hidT s.heap H).Ns b m := by
    rintro b m ⟨ob, es, ep, e, de, rest⟩
    exact ⟨ob, es, ep, hidT_get e (quiet e de), de, rest⟩
  have inB : K.In (hidT s.heap H) := by
    intro b ob e
    refine hidT_get (KX b ob e) ?_
    cases hb' : H b with
    | none => rfl
    | some u =>
      have eb := alone b u hb'
      subst eb
      rw [away u hb'] at e
      cases e
  have lim2 : (hidT s.heap H).NoLimit := by
    obtain ⟨mc, h1, h2⟩ := hlim
    exact ⟨mc, nsOf h1, h2⟩
  have e0 : Env0 P w K mg (hidT s.heap H) callerA [] s H :=
    { frames := rfl, mod := ⟨inB, nsOf hns, ⟨mb, nsOf hb, hbb⟩, lim2⟩, bs := fun b o e => of_hidT e, bsz := Nat.le_of_eq (hidT_size _ _), funs := trivial, frf := (fun b h => by cases h), hok := ok, bare := .of_eq hg }
  have go := (F _ inB (nsOf hns)).run callerA [] s H [.ref a] [.ref a] _ hr rfl e0 (bd s (.ref a)) (.cons rfl .nil) sq
  refine codeAny_mono go fun r s' hq => ?_
  match r, hq with
  | .error _, z => exact z.elim
  | .ok .next, z => exact z.elim
  | .ok .brk, z => exact z.elim
  | .ok .cont, z => exact z.elim
  | .ok (.ret u), z =>
    obtain ⟨v, H', os, bare, un, ok', rv, q⟩ := z
    have q : v = .bl true := q
    subst q
    have ru : u = Value.bool true := rv
    subst ru
    refine ⟨rfl, OldK.of_keep fun b o e => ?_, os, bare⟩
    cases hb' : H b with
    | none => exact un.keep b o e hb' (fun z => by cases z) (fun z => by cases z)
    | some t =>
      rcases only b with z | ⟨ob, xs, z⟩
      · rw [hb'] at z
        cases z
      · have kept := (ok' b _ (un.frzs b ob _ z)).1
        have was := (ok b _ z).1
        rw [was] at e
        cases e
        exact kept
theorem law_end (KX : K.In s.heap) (hns : s.heap.Ns mainGlobals mg) (hb : s.heap.Ns builtinsNs mb) (hbb : ∀ y : Str, y ≠ "__name__" → mb y = bootBuiltins y) (hlim : s.heap.NoLimit) (hg : s.gens = #[])
    (sc : s.heap.get? a = some { cls := .type "list", data := .seq vs.toArray }) (iv : IntsAre vs ns) (hl : ns.length ≤ sizeLine) (hr : Room k callerA)
    (F : ∀ base : Heap, K.In base → base.Ns mainGlobals mg → FnG P w K mg base k fa fd [x] sp) (bd : ∀ (s : Shared) (u : Value), BindsTo s fd ⟨[u], []⟩ [(x, u)])
    (want : ∀ H : Hp, Only H → SqL K H a (ns.map V.int) → sp [.ref a] H (fun v _ => v = .bl true) E0) :
    codeAny (model P w) callerA (.call (.ref fa) ⟨[.ref a], []⟩) (fun r s' => r = .ok (.ret (.bool true)) ∧ OldK s.heap s'.heap ∧ s'.os = s.os ∧ AllBare s'.gens) s := by
  have rel := vals_ints iv
  have hlen : vs.length = ns.length := by
    have := rel.length
    rw [List.length_map] at this
    exact this.symm
  by_cases hk : K.lookup a = none
  · -- the script, locked
    refine end_at KX hns hb hbb hlim hg sc hr F bd (fun b => if b = a then some (.frz { cls := .type "list", data := .seq vs.toArray } (.lst (ns.map V.int))) else none) (fun b => ?_) (want _ (fun b => ?_) (.inl (.inr ⟨_, if_pos rfl⟩))) (fun b u e => ?_) (fun b u e => ?_) (fun _ _ => hk)
    · by_cases e : b = a
      · exact .inr ⟨_, _, if_pos e⟩
      · exact .inl (if_neg e)
    · by_cases e : b = a
      · exact .inr ⟨_, _, if_pos e⟩
      · exact .inl (if_neg e)
    · by_cases hba : b = a
      · subst hba
        have e2 := (if_pos rfl).symm.trans e
        cases e2
        exact ⟨sc, by rw [List.length_map]; exact hl, vs, _, rel, sc⟩
      · have e2 := (if_neg hba).symm.trans e
        cases e2
    · by_cases hba : b = a
      · exact hba
      · have e2 := (if_neg hba).symm.trans e
        cases e2
  · -- the script stands in the written part
    obtain ⟨ob, eo⟩ := Option.ne_none_iff_exists'.mp hk
    have e := KX a ob eo
    rw [sc] at e
    cases e
    refine end_at KX hns hb hbb hlim hg sc hr F bd (fun _ => none) (fun _ => .inl rfl) (want _ (fun _ => .inl rfl) (.inr ⟨_, vs.toArray, _, eo, rfl, rfl, rfl, by rw [List.size_toArray, hlen]; exact hl, by simpa using rel⟩)) (fun b u z => ?_) (fun b u z => ?_) (fun u z => ?_)
    · have z : (none : Option HO) = some u := z
      cases z
    · have z : (none : Option HO) = some u := z
      cases z
    · have z : (none : Option HO) = some u := z
      cases z
end
/-- the row's end -/
theorem walk_end {l : PySem.W.OpenLaw} {n k : Nat} {q : Program} {loose : List Str} {XP : (Str → Option Value) → Heap → Prop} {YP : World → Heap → Prop} {d : DefRec} {K : Params → PySem.W.Frag} {sp : PySem.W.Frag → Sp} {x : Str}
    (hn : l.most = some n) (hn2 : n ≤ sizeLine) (hdf : d.params.defaults = []) (hr : Room k callerA) (hY : ∀ (w : World) (h : Heap), YP w h → (K w.params).In h)
    (F : ∀ (w : World) (mg : Str → Option Value) (fa : Addr) (h : Heap), (K w.params).In h → h.Ns mainGlobals mg → mg d.name = some (.ref fa) →
      ∃ fd : FuncData, (∀ (s : Shared) (u : Value), BindsTo s fd ⟨[u], []⟩ [(x, u)]) ∧ ∀ base : Heap, (K w.params).In base → base.Ns mainGlobals mg → FnG l.prog w (K w.params) mg base k fa fd [x] (sp (K w.params)))
    (want : ∀ (K : PySem.W.Frag) (H : Hp) (a : Addr) (ns : List Int), ns.length ≤ n → SqL K H a (ns.map V.int) → sp K [.ref a] H (fun v _ => v = .bl true) E0) :
    PySem.W.WalkO q loose XP YP l.row.toRowW d [] (fun f vs => PySem.call f vs) := by
  refine Att.attach_call hn hdf fun w s₀ s₁ mg mb fa o pm cd doc a vs ns G Y ho hd hcd hmg hobj hints hlen hg => ?_
  obtain ⟨fd, bd, hF⟩ := F w mg fa _ (hY w _ Y) G.T.g hmg
  exact law_end (hY w _ Y) G.T.g G.T.b G.T.builtins G.T.nolimit hg hobj hints (Nat.le_trans hlen hn2) hr hF bd fun H _ hS => want _ H a ns hlen hS
end DL
namespace DL
open PySem PySem.Spec PyProof.Rows L2
/-! ### loops over data -/
theorem forL_inv {dg : DG} {db : DS} {D : DEnds} {items : List PyData} (I : Nat → Ev → Nat → Prop)
    (step : ∀ (j : Nat) (d : PyData) (env : Ev) (c : Nat) (k : Ev → Nat → Prop), items[j]? = some d → I j env c → (∀ env' c', I (j + 1) env' c' → k env' c') → dg (.dat d) env fun env' => db { nx := k, ct := k, bk := D.nx, rt := D.rt } env' c)
    {env : Ev} {c : Nat} (h0 : I 0 env c) (hend : ∀ env c, I items.length env c → D.nx env c) : forL dg db D items env c := by
  have key : ∀ (m j : Nat) (env : Ev) (c : Nat), m + j = items.length → I j env c → forL dg db D (items.drop j) env c := by
    intro m
    induction m with
    | zero =>
      intro j env c e h
      have e : j = items.length := by omega
      subst e
      rw [List.drop_length]
      exact hend env c h
    | succ m ih =>
      intro j env c e h
      have hj : j < items.length := by omega
      rw [List.drop_eq_getElem_cons hj]
      exact step j items[j] env c _ (List.getElem?_eq_getElem hj) h fun env' c' h' => ih (j + 1) env' c' (by omega) h'
  exact key items.length 0 env c (by omega) h0
/-- a comprehension whose element draws nothing -/
theorem lcL_pure {i : Nat} {dt : DT} {de : DE} {env : Ev} (f : PyData → Bool) (h : PyData → PyData) : ∀ (items acc : List PyData) (c : Nat) (k : List PyData → Nat → Prop),
    (∀ d ∈ items, ∀ P : Bool → Nat → Prop, P (f d) c → dt (env.set i (some (.dat d))) c P) → (∀ d ∈ items, f d = true → ∀ P : Vl → Nat → Prop, P (.dat (h d)) c → de (env.set i (some (.dat d))) c P) →
    k (acc ++ (items.filter f).map h) c → lcL (gNm i) dt de env items acc c k
  | [], acc, c, k, _, _, hk => by
    simpa [lcL] using hk
  | d :: ds, acc, c, k, h1, h2, hk => by
    unfold lcL gNm
    refine h1 d List.mem_cons_self _ ?_
    cases hf : f d with
    | false =>
      refine iteF (lcL_pure f h ds acc c k (fun e he => h1 e (List.mem_cons_of_mem _ he)) (fun e he => h2 e (List.mem_cons_of_mem _ he)) ?_)
      rw [List.filter_cons_of_neg (by rw [hf]; decide)] at hk
      exact hk
    | true =>
      refine iteT (h2 d List.mem_cons_self hf _ (lcL_pure f h ds (acc ++ [h d]) c k (fun e he => h1 e (List.mem_cons_of_mem _ he)) (fun e he => h2 e (List.mem_cons_of_mem _ he)) ?_))
      rw [List.filter_cons_of_pos hf, List.map_cons] at hk
      simpa using hk
/-- a comprehension that draws: what holds of what was made so far -/
theorem lcL_inv {i : Nat} {de : DE} {env : Ev} {items : List PyData} (N : Nat) (I : List PyData → Nat → Prop)
    (step : ∀ (d : PyData) (acc : List PyData) (c : Nat) (k : Vl → Nat → Prop), d ∈ items → acc.length < N → I acc c → (∀ z c', I (acc ++ [z]) c' → k (.dat z) c') → de (env.set i (some (.dat d))) c k)
    {k : List PyData → Nat → Prop} {c : Nat} {acc : List PyData} (hN : acc.length + items.length = N) (h0 : I acc c) (hend : ∀ out c', I out c' → out.length = N → k out c') : lcL (gNm i) tOn de env items acc c k := by
  induction items generalizing acc c with
  | nil => exact hend acc c h0 (by simpa using hN)
  | cons d ds ih =>
    rw [List.length_cons] at hN
    unfold lcL gNm tOn
    refine iteT (step d acc c _ List.mem_cons_self (by omega) h0 fun z c' hz => ?_)
    refine ih (fun e acc c k he => step e acc c k (List.mem_cons_of_mem _ he)) ?_ hz
    rw [List.length_append, List.length_singleton]
    omega
theorem ix_ok {ds : List PyData} {i : Int} {z : PyData} {P : PyData → Prop} (e : atI ds i = some z) (h : P z) : ixK ds (.int i) P := by
  unfold ixK intK
  simp only [e]
  exact h
theorem rangeD_mem {lo : Int} {n : Nat} {d : PyData} (h : d ∈ rangeD lo n) : ∃ k : Nat, k < n ∧ d = .int (lo + k) := by
  unfold rangeD at h
  obtain ⟨k, hk, rfl⟩ := List.mem_map.mp h
  exact ⟨k, List.mem_range.mp hk, rfl⟩
theorem rangeD_get {lo : Int} {n j : Nat} {d : PyData} (h : (rangeD lo n)[j]? = some d) : j < n ∧ d = .int (lo + j) := by
  unfold rangeD at h
  rw [List.getElem?_map] at h
  by_cases hj : j < n
  · rw [List.getElem?_range hj] at h
    cases h
    exact ⟨hj, rfl⟩
  · rw [List.getElem?_eq_none (by simpa using hj)] at h
    cases h
/-! ### how long a text repr makes -/
mutual
def cost : PyData → Nat
  | .none => 4
  | .bool _ => 5
  | .int _ => 1921
  | .str x => (reprText x).length
  | .list xs => costs xs + 2
  | .tuple xs => costs xs + 2
  | .dict _ => 0
def costs : List PyData → Nat
  | [] => 0
  | x :: xs => cost x + 2 + costs xs
end
theorem listText_le : ∀ ts : List Str, (listText ts).length ≤ piled ts + 2
  | [] => by decide +kernel
  | t :: r => by
    have h := textFrom_length_pos r 1 (("[" : Str) ++ (if (0 : Nat) > 0 then ", " else "" : String) ++ t) (Nat.succ_pos 0)
    have e1 : ((("[" : Str) ++ (if (0 : Nat) > 0 then ", " else "" : String) ++ t)).length = 1 + t.length := by
      rw [strLen_append, strLen_append]
      rfl
    have e2 : (listText (t :: r)).length = (textFrom 1 (("[" : Str) ++ (if (0 : Nat) > 0 then ", " else "" : String) ++ t) r).length + 1 := by
      show ((textFrom 1 (("[" : Str) ++ (if (0 : Nat) > 0 then ", " else "" : String) ++ t) r) ++ (("]" : String) : Str)).length = _
      rw [strLen_append]
      rfl
    rw [e2, h, e1, piled_cons]
    omega
mutual
theorem shown_le : ∀ d : PyData, d.showable = true → d.hasDict = false → d.shown.length ≤ cost d
  | .none, _, _ => by
    simp only [PyData.shown, cost]
    decide +kernel
  | .bool b, _, _ => by
    simp only [PyData.shown, cost]
    cases b <;> decide +kernel
  | .int i, h, _ => by
    simp only [PyData.shown, cost]
    have e := int_text_length_le (k := 1920) (by decide) (of_decide_eq_true h)
    rw [PySem.ofString_length]
    omega
  | .str x, _, _ => by
    simp only [PyData.shown, cost]
    exact Nat.le_refl _
  | .list xs, h, hd => by
    simp only [PyData.shown, cost]
    have := shownAll_le xs (by simpa [PyData.showable] using h) (by simpa [PyData.hasDict] using hd)
    have := listText_le (PyData.shownAll xs)
    omega
  | .tuple xs, h, hd => by
    simp only [PyData.shown, cost]
    have := shownAll_le xs (by simpa [PyData.showable] using h) (by simpa [PyData.hasDict] using hd)
    have := fmt_text (PyData.shownAll xs)
    omega
  | .dict _, _, hd => by simp [PyData.hasDict] at hd
theorem shownAll_le : ∀ ds : List PyData, PyData.showableAll ds = true → PyData.hasDictAll ds = false → piled (PyData.shownAll ds) ≤ costs ds
  | [], _, _ => by simp [PyData.shownAll, costs, piled]
  | d :: ds, h, hd => by
    simp only [PyData.showableAll, Bool.and_eq_true] at h
    simp only [PyData.hasDictAll, Bool.or_eq_false_iff] at hd
    simp only [PyData.shownAll, costs]
    rw [piled_cons]
    have := shown_le d h.1 hd.1
    have := shownAll_le ds h.2 hd.2
    omega
end
/-- dInts within this bound are shown -/
theorem show_int {i : Int} (h : i.natAbs < 2 ^ 1000) : PyData.showable (.int i) = true := by
  simp only [PyData.showable, decide_eq_true_eq]
  by_cases h0 : i.natAbs = 0
  · rw [h0]
    decide
  · exact Nat.lt_of_lt_of_le ((Nat.log2_lt h0).mpr h) (by decide)
theorem shows_of {d : PyData} (h1 : d.showable = true) (h2 : d.hasDict = false) (h3 : d.depth ≤ 60) (h4 : cost d ≤ sizeLine) : shows d := ⟨h1, h3, Nat.le_trans (shown_le d h1 h2) h4⟩
/-! ### lists of ints -/
def dInts (ns : List Int) : List PyData := ns.map PyData.int
theorem dInts_showable : ∀ {ns : List Int}, (∀ n ∈ ns, n.natAbs < 2 ^ 1000) → PyData.showableAll (dInts ns) = true
  | [], _ => rfl
  | n :: ns, h => by
    simp only [dInts, List.map_cons, PyData.showableAll, Bool.and_eq_true]
    exact ⟨show_int (h n List.mem_cons_self), dInts_showable fun m hm => h m (List.mem_cons_of_mem _ hm)⟩
theorem dInts_noDict : ∀ ns : List Int, PyData.hasDictAll (dInts ns) = false
  | [] => rfl
  | n :: ns => by
    simp only [dInts, List.map_cons, PyData.hasDictAll, PyData.hasDict, Bool.false_or]
    exact dInts_noDict ns
theorem dInts_depth : ∀ ns : List Int, PyData.depthAll (dInts ns) = 0
  | [] => rfl
  | n :: ns => by
    simp only [dInts, List.map_cons, PyData.depthAll, PyData.depth]
    have := dInts_depth ns
    simp only [dInts] at this
    rw [this]
    rfl
theorem dInts_costs : ∀ ns : List Int, costs (dInts ns) = 1923 * ns.length
  | [] => rfl
  | n :: ns => by
    simp only [dInts, List.map_cons, costs, cost, List.length_cons]
    have := dInts_costs ns
    simp only [dInts] at this
    omega
theorem shows_tup {ns : List Int} (h : ∀ n ∈ ns, n.natAbs < 2 ^ 1000) (hl : ns.length ≤ 1000) : shows (.tuple (dInts ns)) := by
  refine shows_of (by simpa [PyData.showable] using dInts_showable h) (by simpa [PyData.hasDict] using dInts_noDict ns) (by simp [PyData.depth, dInts_depth]) ?_
  simp only [cost, dInts_costs]
  rw [sizeLine_eq]
  omega
theorem shows_lst {ns : List Int} (h : ∀ n ∈ ns, n.natAbs < 2 ^ 1000) (hl : ns.length ≤ 1000) : shows (.list (dInts ns)) := by
  refine shows_of (by simpa [PyData.showable] using dInts_showable h) (by simpa [PyData.hasDict] using dInts_noDict ns) (by simp [PyData.depth, dInts_depth]) ?_
  simp only [cost, dInts_costs]
  rw [sizeLine_eq]
  omega
theorem dInts_at {ms : List Int} {r : Int} (h0 : 0 ≤ r) (h1 : r < ms.length) : ∃ z, atI (dInts ms) r = some (.int z) ∧ z ∈ ms := by
  have hlt : r.toNat < ms.length := by omega
  refine ⟨ms[r.toNat], ?_, List.getElem_mem hlt⟩
  have e : (dInts ms)[r.toNat]? = some (.int ms[r.toNat]) := by
    unfold dInts
    rw [List.getElem?_map, List.getElem?_eq_getElem hlt]
    rfl
  have e2 := atI_nat e
  rwa [show ((r.toNat : Nat) : Int) = r by omega] at e2
theorem ne_self {a : Str} {P : PyData → Prop} (h : P (.bool false)) : rdNe (.str a) (.str a) P := by
  unfold rdNe rdEq
  simpa using h
theorem eq_self {a : Str} {P : PyData → Prop} (h : P (.bool true)) : rdEq (.str a) (.str a) P := by
  unfold rdEq
  simpa using h
theorem sum_abs {B : Nat} : ∀ {l : List Int}, (∀ m ∈ l, m.natAbs ≤ B) → l.sum.natAbs ≤ l.length * B
  | [], _ => by simp
  | m :: l, h => by
    have h1 := h m List.mem_cons_self
    have h2 := sum_abs (l := l) fun x hx => h x (List.mem_cons_of_mem _ hx)
    rw [List.sum_cons, List.length_cons, Nat.succ_mul]
    have := Int.natAbs_add_le m l.sum
    omega
end DL
namespace DL
open PySem PySem.Spec PyProof.Rows L2

/-! ### isinstance -/
def tyN : PyData → String
  | .none => "NoneType"
  | .bool _ => "bool"
  | .int _ => "int"
  | .str _ => "str"
  | .list _ => "list"
  | .tuple _ => "tuple"
  | .dict _ => "dict"
theorem dp_ty {K : PySem.W.Frag} {H : Hp} {v : V} {d : PyData} (h : Dp K H v d) : TyX K H v (.type (tyN d)) := by
  cases h with
  | non => exact .base .non
  | bl b => exact .base (.bl b)
  | int i => exact .base (.int i)
  | str x => exact .base (.str x)
  | lst hs ha =>
    rcases hs with (e | ⟨o, e⟩) | ⟨o, its, n, e, c, _⟩
    · exact .base (.lst e)
    · exact .base (.frz e)
    · exact .kList e c
  | tup hs ha =>
    rcases hs with (e | ⟨o, e⟩) | ⟨o, its, n, e, c, _⟩
    · exact .base (.tup e)
    · exact .fTuple e
    · exact .kTuple e c
def isTup : PyData → Bool
  | .tuple _ => true
  | _ => false
def isInt : PyData → Bool
  | .int _ => true
  | .bool _ => true
  | _ => false
def isBool : PyData → Bool
  | .bool _ => true
  | _ => false
theorem kit_tup : ∀ d : PyData, kitB (tyN d) "tuple" = some (isTup d)
  | .none => (by decide +kernel : kitB "NoneType" "tuple" = some false)
  | .bool _ => (by decide +kernel : kitB "bool" "tuple" = some false)
  | .int _ => (by decide +kernel : kitB "int" "tuple" = some false)
  | .str _ => (by decide +kernel : kitB "str" "tuple" = some false)
  | .list _ => (by decide +kernel : kitB "list" "tuple" = some false)
  | .tuple _ => (by decide +kernel : kitB "tuple" "tuple" = some true)
  | .dict _ => (by decide +kernel : kitB "dict" "tuple" = some false)
theorem kit_int : ∀ d : PyData, kitB (tyN d) "int" = some (isInt d)
  | .none => (by decide +kernel : kitB "NoneType" "int" = some false)
  | .bool _ => (by decide +kernel : kitB "bool" "int" = some true)
  | .int _ => (by decide +kernel : kitB "int" "int" = some true)
  | .str _ => (by decide +kernel : kitB "str" "int" = some false)
  | .list _ => (by decide +kernel : kitB "list" "int" = some false)
  | .tuple _ => (by decide +kernel : kitB "tuple" "int" = some false)
  | .dict _ => (by decide +kernel : kitB "dict" "int" = some false)
theorem kit_bool : ∀ d : PyData, kitB (tyN d) "bool" = some (isBool d)
  | .none => (by decide +kernel : kitB "NoneType" "bool" = some false)
  | .bool _ => (by decide +kernel : kitB "bool" "bool" = some true)
  | .int _ => (by decide +kernel : kitB "int" "bool" = some false)
  | .str _ => (by decide +kernel : kitB "str" "bool" = some false)
  | .list _ => (by decide +kernel : kitB "list" "bool" = some false)
  | .tuple _ => (by decide +kernel : kitB "tuple" "bool" = some false)
  | .dict _ => (by decide +kernel : kitB "dict" "bool" = some false)
def rdTy (f : PyData → Bool) : PyData → (PyData → Prop) → Prop := fun d P => P (.bool (f d))
section
variable {X : Cx} {E : En} {a b c : Expr} {da db dc : DE} {pos : Pos}
theorem de_isi {T : String} {x : Str} {f : PyData → Bool} {p p2 : Pos} (hT : ∀ d, kitB (tyN d) T = some (f d)) (mi : X.mg "isinstance" = none) (mT : X.mg x = none) (bT : bootBuiltins x = some (.type T)) (ha : DPE X E a da) (hg : Gl X "isinstance" := by rfl) (hg2 : Gl X x := by rfl)
    (hn : x ≠ "__name__" := by decide) (hdb : (x == ("__debug__" : Str)) = false := by decide)
    (he : starEach [a, .Name x p2] X.env = (false, eval a X.env) :: starEach [.Name x p2] X.env := by rfl) (he2 : starEach [.Name x p2] X.env = (false, eval (.Name x p2) X.env) :: starEach [] X.env := by rfl)
    (hpl : (backTo pos (starEach [.Name x p2] X.env)).any (·.1) = false := by rfl) :
    DPE X E (.Call (.Name "isinstance" p) [a, .Name x p2] [] pos) (dUn (rdTy f) da) := by
  refine pe_imp (pe_callB call_isi hg mi (by decide +kernel) (pa_cons ha (pa_cons (pe_bltn (v := .ty T) hg2 mT bT rfl hn hdb) pa_nil he2) he) (by decide) (by decide) he hpl) fun σ H Q h => ?_
  obtain ⟨g, env, c, P, rel, q, k⟩ := h
  refine ⟨g, env, c, _, rel, q, fun x c1 g1 H1 v p1 m1 r1 o1 f1 => ?_⟩
  cases x with
  | deck => exact p1.elim
  | own l => exact p1.elim
  | dat d => exact ⟨v, .ty T, _, _, _, rfl, .ty T, dp_ty (dpF r1 o1), kit_ty (hT d), k _ _ g1 H1 _ p1 m1 r1 (.bl _) trivial⟩

/-! ### tuples -/
def rdAddU : PyData → PyData → (PyData → Prop) → Prop := fun d e P => match d, e with
  | .int i, .int j => P (.int (i + j))
  | .tuple xs, .tuple ys => xs.length + ys.length ≤ sizeLine ∧ P (.tuple (xs ++ ys))
  | _, _ => False
theorem opd_addU {K : PySem.W.Frag} : OpD K (fun x y H Q => rI0 (fun i j => .int (i + j)) x y H Q ∨ rCatA K x y H Q) rdAddU := by
  intro E g env c σ H x y d e P Q r hx hy q k
  unfold rdAddU at q
  split at q
  · exact .inl ⟨_, _, dp_int hx, dp_int hy, k _ g H _ q (Mv.refl g H) r (.int _)⟩
  · rename_i xs ys
    cases hx with
    | tup h1 a1 =>
      cases hy with
      | tup h2 a2 =>
        refine .inr ⟨_, _, _, _, rfl, rfl, seqT r.ex h1, seqT r.ex h2, by rw [DpAll.len a1, DpAll.len a2]; exact q.1, fun e => ?_, fun _ e => ?_, fun _ _ p hp => ?_⟩
        · subst e
          cases a1
          exact k _ g H _ q.2 (Mv.refl g H) r (.tup h2 a2)
        · subst e
          cases a2
          have q2 := q.2
          rw [List.append_nil] at q2
          exact k _ g H _ q2 (Mv.refl g H) r (.tup h1 a1)
        · obtain ⟨r2, m2⟩ := r.new (.tup _) hp
          exact k _ _ _ _ q.2 m2 r2 (.tup (.of upd_same) (DpAll.app (dpAll_mono m2.f a1) (dpAll_mono m2.f a2)))
  · exact q.elim
theorem de_addU (ha : DPE X E a da) (hb : DPE X E b db) : DPE X E (.BinOp a .Add b pos) (dOp rdAddU da db) := de_op (OpR.or op_add op_catA) opd_addU ha hb
def cutD (ds : List PyData) (lo hi : Option Int) : List PyData := (ds.drop (HT.sIx ds.length 0 lo)).take (HT.sIx ds.length ds.length hi - HT.sIx ds.length 0 lo)
theorem dpAll_cut {K : PySem.W.Frag} {F : Hp} {xs : List V} {ds : List PyData} (ha : DpAll K F xs ds) (l u : Option Int) : DpAll K F (cutV xs l u) (cutD ds l u) := by
  unfold cutV cutD
  rw [DpAll.len ha]
  exact DpAll.take _ (DpAll.drop _ ha)
abbrev DO := Ev → Nat → (Option Int → Nat → Prop) → Prop
def upO (K : PySem.W.Frag) (E : En) (dt : DO) : TO := fun σ H Q => ∃ g env c P, Rel K E g env c σ H ∧ dt env c P ∧ ∀ o c' g' H', P o c' → Mv g H g' H' → Rel K E g' env c' σ H' → Q o H'
abbrev DPO (X : Cx) (E : En) (e : Option Expr) (dt : DO) : Prop := PO X e (upO X.K E dt)
def oNo : DO := fun _ c P => P none c
def oSome (da : DE) : DO := fun env c P => da env c fun x c1 => datK x fun d => intK d fun i => P (some i) c1
theorem do_none : DPO X E none oNo := by
  refine ⟨fun pins s σ H Q I h => po_none.run pins s σ H Q I ?_⟩
  obtain ⟨g, env, c, P, rel, q, k⟩ := h
  exact k none c g H q (Mv.refl g H) rel
theorem do_some (h : DPE X E a da) : DPO X E (some a) (oSome da) := by
  refine ⟨fun pins s σ H Q I h2 => (po_some h).run pins s σ H Q I ?_⟩
  obtain ⟨g, env, c, P, rel, q, k⟩ := h2
  refine ⟨g, env, c, _, rel, q, fun x c1 g1 H1 v p1 m1 r1 o1 f1 => ?_⟩
  cases x with
  | deck => exact p1.elim
  | own l => exact p1.elim
  | dat d =>
    cases d <;> try exact p1.elim
    exact ⟨_, dp_int o1, k _ _ g1 H1 p1 m1 r1⟩
def dSlT (da : DE) (lo hi : DO) : DE := fun env c P => da env c fun x c1 => datK x fun d => lo env c1 fun l c2 => hi env c2 fun u c3 => match d with
  | .tuple ds => P (.dat (.tuple (cutD ds l u))) c3
  | _ => False
theorem de_slT {lo hi : Option Expr} {dl dh : DO} {p2 : Pos} (h : DPE X E a da) (hl : DPO X E lo dl) (hu : DPO X E hi dh) : DPE X E (.Subscript a (.Slice lo hi none p2) pos) (dSlT da dl dh) := by
  refine pe_imp (pe_slice sl_tupA h hl hu) fun σ H Q h => ?_
  obtain ⟨g, env, c, P, rel, q, k⟩ := h
  refine ⟨g, env, c, _, rel, q, fun x c1 g1 H1 v p1 m1 r1 o1 f1 => ?_⟩
  cases x with
  | deck => exact p1.elim
  | own l => exact p1.elim
  | dat d =>
    refine ⟨g1, env, c1, _, r1, p1, fun l c2 g2 H2 p2 m2 r2 => ⟨g2, env, c2, _, r2, p2, fun u c3 g3 H3 p3 m3 r3 => ?_⟩⟩
    cases d <;> try exact p3.elim
    rename_i ds
    have o1 : Dp X.K g1.F v (.tuple ds) := o1
    have o3 := dp_mono (m2.trans m3).f o1
    cases o3 with
    | tup hs ha =>
      have hlen := DpAll.len ha
      refine ⟨_, _, rfl, seqT r3.ex hs, fun e => ?_, fun _ p hp => ?_⟩
      · have e2 : cutD ds l u = ds := by
          unfold cutD
          rw [hlen] at e
          rw [e.1, e.2, List.drop_zero, Nat.sub_zero, List.take_length]
        have p3 : P (Vl.dat (.tuple (cutD ds l u))) c3 := p3
        rw [e2] at p3
        exact k _ _ g3 H3 _ p3 (m1.trans (m2.trans m3)) r3 (.tup hs ha) trivial
      · obtain ⟨r4, m4⟩ := r3.new (.tup _) hp
        refine k _ _ _ _ _ p3 ((m1.trans (m2.trans m3)).trans m4) r4 (.tup (.of upd_same) ?_) trivial
        exact dpAll_mono m4.f (dpAll_cut ha l u)

/-! ### a < b < c -/
def dChain (r r' : PyData → PyData → (PyData → Prop) → Prop) (da db dc : DE) : DE := fun env c P => da env c fun x c1 => datK x fun d => db env c1 fun y c2 => datK y fun e => r d e fun z => boolK z fun k => if k = true then dc env c2 fun w c3 => datK w fun u => r' e u fun z => P (.dat z) c3 else P (.dat (.bool false)) c2
theorem chain_up {K : PySem.W.Frag} {r r' : R2} {rd rd' : PyData → PyData → (PyData → Prop) → Prop} (h1 : OpD K r rd) (h2 : OpD K r' rd') {σ : L2.St} {H : Hp} {Q : VK} (h : up K E (dChain rd rd' da db dc) σ H Q) : tChain r r' (up K E da) (up K E db) (up K E dc) σ H Q := by
  obtain ⟨g, env, c, P, rel, q, k⟩ := h
  refine ⟨g, env, c, _, rel, q, fun x c1 g1 H1 v p1 m1 r1 o1 f1 => ?_⟩
  cases x with
  | deck => exact p1.elim
  | own l => exact p1.elim
  | dat d =>
    refine ⟨g1, env, c1, _, r1, p1, fun y c2 g2 H2 u p2 m2 r2 o2 f2 => ?_⟩
    cases y with
    | deck => exact p2.elim
    | own l => exact p2.elim
    | dat e =>
      refine h1 E g2 env c2 σ H2 v u d e _ _ r2 (dp_mono m2.f o1) o2 p2 fun z g3 H3 w pz m3 r3 dz => ?_
      cases z <;> try exact pz.elim
      rename_i kb
      refine ⟨kb, dp_bl dz, ?_⟩
      cases kb with
      | false => exact iteF (k _ _ g3 H3 _ pz ((m1.trans m2).trans m3) r3 (.bl _) trivial)
      | true =>
        refine iteT ⟨g3, env, c2, _, r3, pz, fun y2 c4 g4 H4 u4 p4 m4 r4 o4 f4 => ?_⟩
        cases y2 with
        | deck => exact p4.elim
        | own l => exact p4.elim
        | dat e2 =>
          exact h2 E g4 env c4 σ H4 u u4 e e2 _ Q r4 (dp_mono (m3.trans m4).f o2) o4 p4 fun z g5 H5 w5 pz5 m5 r5 dz5 => k _ _ g5 H5 w5 pz5 ((((m1.trans m2).trans m3).trans m4).trans m5) r5 dz5 trivial
theorem de_chain {op op' : CmpOp} {r r' : R2} {rd rd' : PyData → PyData → (PyData → Prop) → Prop} (ho : OpR X (compareOp op) r) (ho' : OpR X (compareOp op') r') (h1 : OpD X.K r rd) (h2 : OpD X.K r' rd') (ha : DPE X E a da) (hb : DPE X E b db) (hc : DPE X E c dc)
    (hm : lastMarks [op, op'] [b, c] = false := by with_unfolding_all rfl) : DPE X E (.Compare a [op, op'] [b, c] pos) (dChain rd rd' da db dc) := pe_imp (pe_chain ho ho' ha hb hc hm) fun _ _ _ h => chain_up h1 h2 h

theorem dt_chain {op op' : CmpOp} {r r' : R2} {rd rd' : PyData → PyData → (PyData → Prop) → Prop} (ho : OpR X (compareOp op) r) (ho' : OpR X (compareOp op') r') (h1 : OpD X.K r rd) (h2 : OpD X.K r' rd') (ha : DPE X E a da) (hb : DPE X E b db) (hc : DPE X E c dc)
    (hm : lastMarks [op, op'] [b, c] = false := by with_unfolding_all rfl) : DPT X E (.Compare a [op, op'] [b, c] pos) (tVal (dChain rd rd' da db dc)) := pt_imp (pt_chain ho ho' ha hb hc hm) fun _ _ _ h => tB_up (fun _ _ _ h => chain_up h1 h2 h) h
theorem od_lt {K : PySem.W.Frag} : OpD K (rI0 fun i j => .bl (decide (i < j))) rdLt := opd_I0 fun _ _ _ _ => .bl _
theorem od_le {K : PySem.W.Frag} : OpD K (rI0 fun i j => .bl (decide (i ≤ j))) rdLe := opd_I0 fun _ _ _ _ => .bl _

/-! ### sorted -/
def rdSorted : List PyData → (PyData → Prop) → Prop := fun ds P => match ds with
  | [.list xs] => ∃ ns, intsOf xs = some ns ∧ ns.length < 64 ∧ ∀ ms : List Int, ms.Perm ns → ms.Pairwise (· ≤ ·) → P (.list (dInts ms))
  | _ => False
theorem cd_sorted {K : PySem.W.Frag} : CallD K (rSorted K) rdSorted := by
  intro E g env c σ H xs ds P Q r h q k
  unfold rdSorted at q
  split at q
  · cases h with
    | cons h1 t =>
      cases t
      cases h1 with
      | lst hs ha =>
        obtain ⟨ns, e, hl, q⟩ := q
        have ex := intsOf_dp e ha
        subst ex
        refine ⟨_, ns, rfl, r.ex.seq hs, hl, fun ms p h1 h2 hp => ?_⟩
        obtain ⟨r2, m2⟩ := r.new (.lst (ms.map V.int)) hp
        exact k _ _ _ _ (q ms h1 h2) m2 r2 (.lst (.of upd_same) (dpAll_ints ms))
  · exact q.elim

/-! ### zip of two tuples -/
def wZipT (da : DA) : DI := fun env c P => da env c fun xs c1 => datsK xs fun ds => match ds with
  | [.tuple xs, .tuple ys] => P ((xs.zip ys).map fun z => .tuple [z.1, z.2]) c1
  | _ => False
theorem walk_zipT {K : PySem.W.Frag} {a b : Addr} {xs ys : List V} {n : Nat} (hn : n = min xs.length ys.length) : Walk (RZ.ItzT K a b) n (fun H => SqT K H a xs ∧ SqT K H b ys) (YPair (fun i => xs[i]?) (fun i => ys[i]?)) := by
  refine ⟨fun i H hi h => ⟨xs, ys, xs[i]'(by omega), ys[i]'(by omega), h.1, h.2, List.getElem?_eq_getElem _, List.getElem?_eq_getElem _⟩, fun H h => ⟨xs, ys, h.1, h.2, by omega⟩, fun i H v H' hi h y => ?_⟩
  obtain ⟨T, x, y, e1, e2, e3, f1, f2⟩ := y
  exact ⟨T, x, y, e1, e2, e3, f1 xs h.1, f2 ys h.2⟩
theorem dw_zipT {elts : List Expr} {kk : Nat} {dr : DA} {p tpos : Pos} (ha : DPA X E [a, b] dr) (hm : X.mg "zip" = none) (hg : Gl X "zip" := by rfl) (hs : starEach [a, b] X.env = (false, eval a X.env) :: starEach [b] X.env := by rfl) (hpl : (backTo pos (starEach [b] X.env)).any (·.1) = false := by rfl) :
    DPI X E (.Tuple elts kk tpos) (.Call (.Name "zip" p) [a, b] [] pos) (wZipT dr) := by
  refine pi_imp (RZ.pi_zipA hg hm ha hs hpl) fun σ H R h => ?_
  obtain ⟨g, env, c, P, rel, q, k⟩ := h
  refine ⟨g, env, c, _, rel, q, fun xs c1 g1 H1 vs p1 m1 r1 o1 f1 => ?_⟩
  obtain ⟨ds, h1, h2⟩ := datsK_all o1 p1
  split at h1
  · rename_i us ws
    cases h2 with
    | cons h3 t =>
      cases t with
      | cons h4 t =>
        cases t
        cases h3 with
        | tup s1 a1 =>
          cases h4 with
          | tup s2 a2 =>
            refine ⟨_, _, _, _, rfl, .inr ⟨seqT r1.ex s1, seqT r1.ex s2, k _ c1 g1 H1 _ h1 m1 r1 ⟨_, _, walk_zipT (by rw [List.length_map, List.length_zip, DpAll.len a1, DpAll.len a2]), fun g' H' m e => ⟨seqT e (seqT m s1), seqT e (seqT m s2)⟩, fun i H2 x2 H3 d2 e y => ?_⟩⟩⟩
            obtain ⟨T, x, y, rfl, hT, rfl, hx, hy⟩ := y
            obtain ⟨dx, ex, px⟩ := DpAll.getV a1 hx
            obtain ⟨dy, ey, py⟩ := DpAll.getV a2 hy
            have e2 : d2 = .tuple [dx, dy] := by
              rw [List.getElem?_map, (List.getElem?_zip_eq_some (z := (dx, dy))).mpr ⟨ex, ey⟩] at e
              exact (Option.some.inj e).symm
            subst e2
            refine .inr ⟨T, _, hT, rfl, fun F hF hFT => .tup (.of upd_same) ?_⟩
            have sF : Same F (upd F T (.tup [x, y])) := fun b o e => by
              rw [upd_ne (ne_of_none e hFT)]
              exact e
            exact .cons (dp_mono (hF.trans sF) px) (.cons (dp_mono (hF.trans sF) py) .nil)
  · exact h1.elim
end
/-! ### comprehensions with any target -/
theorem lcL_gen {dg : DG} {dt : DT} {de : DE} {env : Ev} (f : PyData → Bool) (h : PyData → PyData) : ∀ (items acc : List PyData) (c : Nat) (k : List PyData → Nat → Prop),
    (∀ d ∈ items, ∀ k2 : List PyData → Nat → Prop, ∀ rest : List PyData → Nat → (List PyData → Nat → Prop) → Prop, ∀ acc, (if f d = true then rest (acc ++ [h d]) c k2 else rest acc c k2) → dg (.dat d) env fun env' => dt env' c fun b c1 => if b = true then de env' c1 fun x c2 => datK x fun z => rest (acc ++ [z]) c2 k2 else rest acc c1 k2) →
    k (acc ++ (items.filter f).map h) c → lcL dg dt de env items acc c k
  | [], acc, c, k, _, hk => by
    simpa [lcL] using hk
  | d :: ds, acc, c, k, h1, hk => by
    unfold lcL
    refine h1 d List.mem_cons_self k (fun a c k => lcL dg dt de env ds a c k) acc ?_
    cases hf : f d with
    | false =>
      refine iteF (lcL_gen f h ds acc c k (fun e he => h1 e (List.mem_cons_of_mem _ he)) ?_)
      rw [List.filter_cons_of_neg (by rw [hf]; decide)] at hk
      exact hk
    | true =>
      refine iteT (lcL_gen f h ds (acc ++ [h d]) c k (fun e he => h1 e (List.mem_cons_of_mem _ he)) ?_)
      rw [List.filter_cons_of_pos hf, List.map_cons] at hk
      simpa using hk
end DL
namespace DL
open PySem PySem.Spec PyProof.Rows L2
/-! ### what can be shown, part by part -/
structure Sm (k N : Nat) (d : PyData) : Prop where
  s : d.showable = true
  h : d.hasDict = false
  k : d.depth ≤ k
  c : cost d ≤ N
structure Sms (k N L : Nat) (ds : List PyData) : Prop where
  s : PyData.showableAll ds = true
  h : PyData.hasDictAll ds = false
  k : PyData.depthAll ds ≤ k
  c : costs ds ≤ N * L
theorem sms_nil {k N : Nat} : Sms k N 0 [] := ⟨rfl, rfl, Nat.zero_le _, Nat.zero_le _⟩
theorem sms_cons {k N L : Nat} {d : PyData} {ds : List PyData} (h : Sm k N d) (t : Sms k (N + 2) L ds) : Sms k (N + 2) (L + 1) (d :: ds) := by
  refine ⟨?_, ?_, ?_, ?_⟩
  · simp only [PyData.showableAll, h.s, t.s, Bool.and_self]
  · simp only [PyData.hasDictAll, h.h, t.h, Bool.or_self]
  · simp only [PyData.depthAll]
    have := h.k
    have := t.k
    omega
  · simp only [costs]
    have := h.c
    have := t.c
    rw [Nat.mul_succ]
    omega
theorem sms_of {k N : Nat} : ∀ {ds : List PyData}, (∀ d ∈ ds, Sm k N d) → Sms k (N + 2) ds.length ds
  | [], _ => sms_nil
  | d :: ds, h => sms_cons (h d List.mem_cons_self) (sms_of fun e he => h e (List.mem_cons_of_mem _ he))
theorem sm_tup {k N : Nat} {ds : List PyData} (L : Nat) (h : ∀ d ∈ ds, Sm k N d) (hl : ds.length ≤ L) : Sm (k + 1) ((N + 2) * L + 2) (.tuple ds) := by
  have t := sms_of h
  refine ⟨by simpa [PyData.showable] using t.s, by simpa [PyData.hasDict] using t.h, by simpa [PyData.depth] using t.k, ?_⟩
  simp only [cost]
  have := t.c
  have := Nat.mul_le_mul_left (N + 2) hl
  omega
theorem sm_lst {k N : Nat} {ds : List PyData} (L : Nat) (h : ∀ d ∈ ds, Sm k N d) (hl : ds.length ≤ L) : Sm (k + 1) ((N + 2) * L + 2) (.list ds) := by
  have t := sms_of h
  refine ⟨by simpa [PyData.showable] using t.s, by simpa [PyData.hasDict] using t.h, by simpa [PyData.depth] using t.k, ?_⟩
  simp only [cost]
  have := t.c
  have := Nat.mul_le_mul_left (N + 2) hl
  omega
theorem sm_int {i : Int} (h : i.natAbs < 2 ^ 200) : Sm 0 1921 (.int i) := ⟨show_int (Nat.lt_of_lt_of_le h (Nat.pow_le_pow_right (by decide) (by decide))), rfl, Nat.le_refl _, Nat.le_refl _⟩
theorem sm_none : Sm 0 1921 .none := ⟨rfl, rfl, Nat.le_refl _, by decide⟩
theorem sm_bool (b : Bool) : Sm 0 1921 (.bool b) := ⟨rfl, rfl, Nat.le_refl _, by simp only [cost]; decide⟩
theorem Sm.mono {k k' N N' : Nat} {d : PyData} (h : Sm k N d) (h1 : k ≤ k') (h2 : N ≤ N') : Sm k' N' d := ⟨h.s, h.h, Nat.le_trans h.k h1, Nat.le_trans h.c h2⟩
theorem Sm.shows {k N : Nat} {d : PyData} (h : Sm k N d) (h1 : k ≤ 60) (h2 : N ≤ 16000000) : DL.shows d := shows_of h.s h.h (Nat.le_trans h.k h1) (Nat.le_trans h.c (by rw [sizeLine_eq]; omega))
/-- two sorted lists of one content are one -/
theorem sorted_one : ∀ {l m : List Int}, l.Perm m → l.Pairwise (· ≤ ·) → m.Pairwise (· ≤ ·) → l = m
  | [], m, p, _, _ => (List.nil_perm.mp p).symm
  | a :: l, [], p, _, _ => (List.perm_nil.mp p)
  | a :: l, b :: m, p, hl, hm => by
    have h1 := List.pairwise_cons.mp hl
    have h2 := List.pairwise_cons.mp hm
    have e : a = b := by
      have ha : a ∈ b :: m := p.mem_iff.mp List.mem_cons_self
      have hb : b ∈ a :: l := p.mem_iff.mpr List.mem_cons_self
      have x1 : b ≤ a := by
        rcases List.mem_cons.mp ha with z | z
        · omega
        · exact h2.1 a z
      have x2 : a ≤ b := by
        rcases List.mem_cons.mp hb with z | z
        · omega
        · exact h1.1 b z
      omega
    subst e
    rw [sorted_one (List.perm_cons a |>.mp p) h1.2 h2.2]
/-! ### rules as data -/
structure R4 where
  f : Int
  s : Int
  l : Int
  m : Option Int
def optD : Option Int → PyData
  | none => .none
  | some m => .int m
def rD (r : R4) : PyData := .tuple [.int r.f, .int r.s, .int r.l, optD r.m]
def rDs (rs : List R4) : PyData := .tuple (rs.map rD)
/-- a rule for n, as the laws draw them -/
structure R4.Ok (n : Int) (r : R4) : Prop where
  f0 : 0 ≤ r.f
  f1 : r.f < n
  s0 : 1 ≤ r.s
  s1 : r.s ≤ n
  l0 : 0 ≤ r.l
  l1 : r.l.natAbs < 2 ^ 200
  m0 : ∀ m, r.m = some m → 0 ≤ m ∧ m.natAbs < 2 ^ 200
theorem sm_opt {n : Int} {r : R4} (h : r.Ok n) : Sm 0 1921 (optD r.m) := by
  cases e : r.m with
  | none => exact sm_none
  | some m => exact sm_int (h.m0 m e).2
theorem sm_rule {n : Int} {r : R4} (hn : n ≤ 1000) (h : r.Ok n) : Sm 1 7694 (rD r) := by
  have h1 : r.f.natAbs < 2 ^ 200 := Nat.lt_of_lt_of_le (by have := h.f0; have := h.f1; omega : r.f.natAbs < 1001) (by decide)
  have h2 : r.s.natAbs < 2 ^ 200 := Nat.lt_of_lt_of_le (by have := h.s0; have := h.s1; omega : r.s.natAbs < 1001) (by decide)
  refine sm_tup (k := 0) (N := 1921) (ds := [.int r.f, .int r.s, .int r.l, optD r.m]) 4 (fun d hd => ?_) (by show 4 ≤ 4; decide)
  simp only [List.mem_cons, List.not_mem_nil, or_false] at hd
  rcases hd with rfl | rfl | rfl | rfl
  · exact sm_int h1
  · exact sm_int h2
  · exact sm_int h.l1
  · exact sm_opt h
theorem sm_rules {n : Int} {rs : List R4} (hn : n ≤ 1000) (hl : rs.length ≤ 40) (h : ∀ r ∈ rs, r.Ok n) : Sm 2 307842 (rDs rs) := by
  refine sm_tup (k := 1) (N := 7694) (ds := rs.map rD) 40 (fun d hd => ?_) (by rw [List.length_map]; exact hl)
  obtain ⟨r, hr, rfl⟩ := List.mem_map.mp hd
  exact sm_rule hn (h r hr)
theorem atI_mem {ds : List PyData} {r : Int} (h0 : 0 ≤ r) (h1 : r < ds.length) : ∃ z, atI ds r = some z ∧ z ∈ ds := by
  have hlt : r.toNat < ds.length := by omega
  refine ⟨ds[r.toNat], ?_, List.getElem_mem hlt⟩
  have e2 := atI_nat (List.getElem?_eq_getElem hlt)
  rwa [show ((r.toNat : Nat) : Int) = r by omega] at e2
theorem small_len {n : Nat} (h : n ≤ 100000) : n < sizeLine := by
  rw [sizeLine_eq]
  omega
theorem dInts_len (ns : List Int) : (dInts ns).length = ns.length := by simp [dInts]
theorem small_le {n : Nat} (h : n ≤ 100000) : n ≤ sizeLine := Nat.le_of_lt (small_len h)
theorem iteD {c A B : Prop} [Decidable c] (hc : c) (h : A) : if decide c = true then A else B := by
  rw [if_pos (decide_eq_true hc)]
  exact h
theorem iteNB {b : Bool} {A B : Prop} (hb : b = true) (h : B) : if (!b) = true then A else B := by
  subst hb
  exact iteF h
theorem iteB {b : Bool} {A B : Prop} (hb : b = true) (h : A) : if b = true then A else B := by
  subst hb
  exact iteT h
theorem iteDN {c A B : Prop} [Decidable c] (hc : ¬ c) (h : B) : if decide c = true then A else B := by
  rw [if_neg fun z => hc (of_decide_eq_true z)]
  exact h
theorem dInts_eqv : ∀ ns : List Int, PyData.eqvAll (dInts ns) (dInts ns) = true
  | [] => rfl
  | n :: ns => by
    simp only [dInts, List.map_cons, PyData.eqvAll, PyData.eqv, beq_self_eq_true, Bool.true_and]
    exact dInts_eqv ns
theorem dInts_lay : ∀ ns : List Int, PyData.canLayAll0 (dInts ns) = true
  | [] => rfl
  | n :: ns => by
    simp only [dInts, List.map_cons, PyData.canLayAll0, PyData.canLay0, Bool.true_and]
    exact dInts_lay ns
theorem shaped_lst (ns : List Int) : SeqAt.shaped (.list (dInts ns)) = true := by
  unfold SeqAt.shaped
  simp [PyData.canLay0, dInts_lay, PyData.depth, dInts_depth]
theorem lst_eqv (us : List Int) : PyData.eqv (.list (dInts us)) (.list (dInts us)) = true := by
  simp only [PyData.eqv, dInts_eqv]
theorem ne_lst {us : List Int} {P : PyData → Prop} (h : P (.bool false)) : rdNe (.list (dInts us)) (.list (dInts us)) P := by
  refine ⟨shaped_lst us, shaped_lst us, ?_⟩
  have e : PyData.eqv (.list (dInts us)) (.list (dInts us)) = true := by
    simp only [PyData.eqv, dInts_eqv]
  show (match PyData.bool (PyData.eqv (.list (dInts us)) (.list (dInts us))) with | .bool b => P (.bool (!b)) | _ => False)
  rw [e]
  exact h
end DL
namespace RW
open PySem PySem.Spec PyProof.Rows L2 DL
/-! ### the text -/
def topS (i : Nat) : Stmt := PySem.Challenge.pw_ringwindows_k04_rules_turned_and_mirrore.main.body.getD i (.Pass ⟨0, 0, 0, 0⟩)
abbrev s_turned_rules : Stmt := topS 1
abbrev s_mirrored_rules : Stmt := topS 2
abbrev s__law_deck : Stmt := topS 4
abbrev s__law_draw : Stmt := topS 5
abbrev s__law_same : Stmt := topS 6
abbrev s__law_rule : Stmt := topS 7
abbrev s__law_rules : Stmt := topS 8
abbrev s__law_window : Stmt := topS 9
abbrev s__law_mirrored_right : Stmt := topS 10
abbrev s_law : Stmt := topS 11
abbrev N_turned_rules : List Str := ["n", "rules", "place", "first", "size", "least", "most"]
theorem sc_turned_rules : FnScope N_turned_rules ["n", "rules", "place"] (defScope s_turned_rules) := ⟨rfl, rfl, rfl, by decide +kernel, rfl, by decide +kernel, by decide +kernel⟩
abbrev N_mirrored_rules : List Str := ["n", "rules", "first", "size", "least", "most"]
theorem sc_mirrored_rules : FnScope N_mirrored_rules ["n", "rules"] (defScope s_mirrored_rules) := ⟨rfl, rfl, rfl, by decide +kernel, rfl, by decide +kernel, by decide +kernel⟩
abbrev N__law_same : List Str := ["_law_value", "_law_due"]
theorem sc__law_same : FnScope N__law_same ["_law_value", "_law_due"] (defScope s__law_same) := ⟨rfl, rfl, rfl, by decide +kernel, rfl, by decide +kernel, by decide +kernel⟩
abbrev N__law_rule : List Str := ["_law_deck_here", "_law_n", "_law_first", "_law_size", "_law_least", "_law_mosts", "_law_most"]
theorem sc__law_rule : FnScope N__law_rule ["_law_deck_here", "_law_n"] (defScope s__law_rule) := ⟨rfl, rfl, rfl, by decide +kernel, rfl, by decide +kernel, by decide +kernel⟩
abbrev N__law_rules : List Str := ["_law_deck_here", "_law_n", "_law_many", "_law_k"]
theorem sc__law_rules : FnScope N__law_rules ["_law_deck_here", "_law_n", "_law_many"] (defScope s__law_rules) := ⟨rfl, rfl, rfl, by decide +kernel, rfl, by decide +kernel, by decide +kernel⟩
abbrev N__law_window : List Str := ["_law_n", "_law_first", "_law_size", "_law_step"]
theorem sc__law_window : FnScope N__law_window ["_law_n", "_law_first", "_law_size"] (defScope s__law_window) := ⟨rfl, rfl, rfl, by decide +kernel, rfl, by decide +kernel, by decide +kernel⟩
abbrev N__law_mirrored_right : List Str := ["_law_n", "_law_rules_here", "_law_found", "_law_one", "_law_other", "_law_last", "_law_places", "_law_place"]
theorem sc__law_mirrored_right : FnScope N__law_mirrored_right ["_law_n", "_law_rules_here", "_law_found"] (defScope s__law_mirrored_right) := ⟨rfl, rfl, rfl, by decide +kernel, rfl, by decide +kernel, by decide +kernel⟩
abbrev N_law : List Str := ["_law_script", "_law_deck_here", "_law_turn", "_law_n", "_law_rules_here", "_law_before", "_law_place", "_law_due", "_law_rule_here", "_law_first", "_law_found", "_law_again"]
theorem sc_law : FnScope N_law ["_law_script"] (defScope s_law) := ⟨rfl, rfl, rfl, by decide +kernel, rfl, by decide +kernel, by decide +kernel⟩
/-! ### what each def is over data -/
abbrev sp__law_draw : DL.Spec := drawSpec
def dt_turned_rules : DS := (sRet (dCB rdTuple (aCons (dLc (wT (dVar 1)) (gTu 4 (gsCons (gNm 3) (gsCons (gNm 4) (gsCons (gNm 5) (gsCons (gNm 6) gsNil))))) tOn (dTup (aCons (dOp rdMod (dOp rdSub (dVar 3) (dVar 2)) (dVar 0)) (aCons (dVar 4) (aCons (dVar 5) (aCons (dVar 6) aNil))))) (List.map (·.2) ([("first", 3), ("size", 4), ("least", 5), ("most", 6)] : List (Str × Nat)))) aNil)))
def sp_turned_rules : DL.Spec := bodySpec 7 dt_turned_rules
def dt_mirrored_rules : DS := (sRet (dCB rdTuple (aCons (dLc (wT (dVar 1)) (gTu 4 (gsCons (gNm 2) (gsCons (gNm 3) (gsCons (gNm 4) (gsCons (gNm 5) gsNil))))) tOn (dTup (aCons (dOp rdMod (dOp rdSub (dOp rdSub (dC (.int 0)) (dVar 2)) (dVar 3)) (dVar 0)) (aCons (dVar 3) (aCons (dVar 4) (aCons (dVar 5) aNil))))) (List.map (·.2) ([("first", 2), ("size", 3), ("least", 4), ("most", 5)] : List (Str × Nat)))) aNil)))
def sp_mirrored_rules : DL.Spec := bodySpec 6 dt_mirrored_rules
def dt__law_same : DS := (sRet (dOp rdEq (dCB rdRepr (aCons (dVar 0) aNil)) (dCB rdRepr (aCons (dVar 1) aNil))))
def sp__law_same : DL.Spec := bodySpec 2 dt__law_same
def dt__law_rule : DS := (sSeq (sPar 2 3 (aCons (dCall (fun xs c P => xs.length = 2 ∧ sp__law_draw xs c P) (aCons (dVar 0) (aCons (dVar 1) aNil))) (aCons (dOp rdAdd (dC (.int 1)) (dCall (fun xs c P => xs.length = 2 ∧ sp__law_draw xs c P) (aCons (dVar 0) (aCons (dVar 1) aNil)))) aNil))) (sSeq (sAsg (dOp rdIx (dLst (aCons (dC (.int 0)) (aCons (dC (.int 1)) (aCons (dCall (fun xs c P => xs.length = 2 ∧ sp__law_draw xs c P) (aCons (dVar 0) (aCons (dC (.int 9)) aNil))) (aCons (dCall (fun xs c P => xs.length = 2 ∧ sp__law_draw xs c P) (aCons (dVar 0) (aCons (dC (.int 40)) aNil))) (aCons (dOp rdPow (dC (.int 10)) (dC (.int 9))) (aCons (dOp rdSub (dOp rdPow (dC (.int 10)) (dC (.int 9))) (dC (.int 2))) aNil))))))) (dCall (fun xs c P => xs.length = 2 ∧ sp__law_draw xs c P) (aCons (dVar 0) (aCons (dC (.int 6)) aNil)))) (gNm 4)) (sSeq (sAsg (dLst (aCons (dC .none) (aCons (dC .none) (aCons (dOp rdAdd (dVar 4) (dCall (fun xs c P => xs.length = 2 ∧ sp__law_draw xs c P) (aCons (dVar 0) (aCons (dC (.int 4)) aNil)))) (aCons (dCall (fun xs c P => xs.length = 2 ∧ sp__law_draw xs c P) (aCons (dVar 0) (aCons (dC (.int 40)) aNil))) (aCons (dOp rdPow (dC (.int 10)) (dC (.int 9))) (aCons (dVar 4) (aCons (dOp rdSub (dVar 4) (dC (.int 1))) aNil)))))))) (gNm 5)) (sSeq (sAsg (dOp rdIx (dVar 5) (dCall (fun xs c P => xs.length = 2 ∧ sp__law_draw xs c P) (aCons (dVar 0) (aCons (dC (.int 7)) aNil)))) (gNm 6)) (sSeq (sIf (tVal (dUn rdNotN (dVar 6))) (sAsg (dCB rdMax2 (aCons (dC (.int 0)) (aCons (dCB rdMin2 (aCons (dOp rdPow (dC (.int 10)) (dC (.int 9))) (aCons (dVar 6) aNil))) aNil))) (gNm 6)) sNx) (sRet (dTup (aCons (dVar 2) (aCons (dVar 3) (aCons (dVar 4) (aCons (dVar 6) aNil)))))))))))
def sp__law_rule : DL.Spec := bodySpec 7 dt__law_rule
def dt__law_rules : DS := (sRet (dCB rdTuple (aCons (dLc (wR1 (aCons (dCall (fun xs c P => xs.length = 2 ∧ sp__law_draw xs c P) (aCons (dVar 0) (aCons (dOp rdAdd (dVar 2) (dC (.int 1))) aNil))) aNil)) (gNm 3) tOn (dCall (fun xs c P => xs.length = 2 ∧ sp__law_rule xs c P) (aCons (dVar 0) (aCons (dVar 1) aNil))) (List.map (·.2) ([("_law_k", 3)] : List (Str × Nat)))) aNil)))
def sp__law_rules : DL.Spec := bodySpec 4 dt__law_rules
def dt__law_window : DS := (sRet (dCB rdSorted (aCons (dLc (wR1 (aCons (dVar 2) aNil)) (gNm 3) tOn (dOp rdMod (dOp rdAdd (dVar 1) (dVar 3)) (dVar 0)) (List.map (·.2) ([("_law_step", 3)] : List (Str × Nat)))) aNil)))
def sp__law_window : DL.Spec := bodySpec 4 dt__law_window
def dt__law_mirrored_right : DS := (sSeq (sIf (tOo (tNt (tVal (dUn (rdTy isTup) (dVar 2)))) (tVal (dOp rdNe (dCB rdLen (aCons (dVar 2) aNil)) (dCB rdLen (aCons (dVar 1) aNil))))) (sRet (dC (.bool false))) sNx) (sSeq (sFor (wZipT (aCons (dVar 1) (aCons (dVar 2) aNil))) (gTu 2 (gsCons (gNm 3) (gsCons (gNm 4) gsNil))) (sSeq (sIf (tOo (tNt (tVal (dUn (rdTy isTup) (dVar 4)))) (tOo (tVal (dOp rdNe (dCB rdRepr (aCons (dSlT (dVar 4) (oSome (dC (.int 1))) oNo) aNil)) (dCB rdRepr (aCons (dSlT (dVar 3) (oSome (dC (.int 1))) oNo) aNil)))) (tNt (tVal (dChain rdLe rdLt (dC (.int 0)) (dOp rdIx (dVar 4) (dC (.int 0))) (dVar 0)))))) (sRet (dC (.bool false))) sNx) (sSeq (sAsg (dOp rdMod (dOp rdSub (dOp rdAdd (dOp rdIx (dVar 3) (dC (.int 0))) (dOp rdIx (dVar 3) (dC (.int 1)))) (dC (.int 1))) (dVar 0)) (gNm 5)) (sSeq (sIf (tNt (tVal (dCall (fun xs c P => xs.length = 2 ∧ sp__law_same xs c P) (aCons (dOp rdIx (dVar 4) (dC (.int 0))) (aCons (dOp rdSub (dOp rdSub (dVar 0) (dC (.int 1))) (dVar 5)) aNil))))) (sRet (dC (.bool false))) sNx) (sSeq (sAsg (dCB rdSorted (aCons (dLc (wL (dCall (fun xs c P => xs.length = 3 ∧ sp__law_window xs c P) (aCons (dVar 0) (aCons (dOp rdIx (dVar 3) (dC (.int 0))) (aCons (dOp rdIx (dVar 3) (dC (.int 1))) aNil))))) (gNm 7) tOn (dOp rdSub (dOp rdSub (dVar 0) (dC (.int 1))) (dVar 7)) (List.map (·.2) ([("_law_place", 7)] : List (Str × Nat)))) aNil)) (gNm 6)) (sIf (tVal (dOp rdNe (dCall (fun xs c P => xs.length = 3 ∧ sp__law_window xs c P) (aCons (dVar 0) (aCons (dOp rdIx (dVar 4) (dC (.int 0))) (aCons (dOp rdIx (dVar 4) (dC (.int 1))) aNil)))) (dVar 6))) (sRet (dC (.bool false))) sNx)))))) (sRet (dC (.bool true)))))
def sp__law_mirrored_right : DL.Spec := bodySpec 8 dt__law_mirrored_right
def dt_law : DS := (sSeq (sDeck 1 0) (sSeq (sFor (wR1 (aCons (dC (.int 8)) aNil)) (gNm 2) (sSeq (sAsg (dOp rdIx (dLst (aCons (dOp rdAdd (dC (.int 1)) (dCall (fun xs c P => xs.length = 2 ∧ sp__law_draw xs c P) (aCons (dVar 1) (aCons (dC (.int 12)) aNil)))) (aCons (dC (.int 12)) (aCons (dC (.int 3)) aNil)))) (dOp rdMod (dVar 2) (dC (.int 3)))) (gNm 3)) (sSeq (sAsg (dCall (fun xs c P => xs.length = 3 ∧ sp__law_rules xs c P) (aCons (dVar 1) (aCons (dVar 3) (aCons (dC (.int 16)) aNil)))) (gNm 4)) (sSeq (sAsg (dCB rdRepr (aCons (dVar 4) aNil)) (gNm 5)) (sSeq (sFor (wR1 (aCons (dVar 3) aNil)) (gNm 6) (sSeq (sAsg (dTup aNil) (gNm 7)) (sSeq (sFor (wT (dVar 4)) (gNm 8) (sSeq (sAsg (dOp rdAdd (dOp rdSub (dOp rdIx (dVar 8) (dC (.int 0))) (dVar 6)) (dOp rdMul (dVar 3) (dCB rdInt1 (aCons (dOp rdLt (dOp rdIx (dVar 8) (dC (.int 0))) (dVar 6)) aNil)))) (gNm 9)) (sAsg (dOp rdAddU (dVar 7) (dTup (aCons (dOp rdAddU (dTup (aCons (dVar 9) aNil)) (dSlT (dVar 8) (oSome (dC (.int 1))) oNo)) aNil))) (gNm 7)))) (sSeq (sAsg (dLc (wR1 (aCons (dC (.int 2)) aNil)) (gNm 11) tOn (dCall (fun xs c P => xs.length = 3 ∧ sp_turned_rules xs c P) (aCons (dVar 3) (aCons (dVar 4) (aCons (dVar 6) aNil)))) (List.map (·.2) ([("_law_again", 11)] : List (Str × Nat)))) (gNm 10)) (sIf (tNt (tVal (dCall (fun xs c P => xs.length = 2 ∧ sp__law_same xs c P) (aCons (dVar 10) (aCons (dLst (aCons (dVar 7) (aCons (dVar 7) aNil))) aNil))))) (sRet (dC (.bool false))) sNx))))) (sSeq (sAsg (dCall (fun xs c P => xs.length = 2 ∧ sp_mirrored_rules xs c P) (aCons (dVar 3) (aCons (dVar 4) aNil))) (gNm 10)) (sSeq (sIf (tOo (tNt (tVal (dCall (fun xs c P => xs.length = 3 ∧ sp__law_mirrored_right xs c P) (aCons (dVar 3) (aCons (dVar 4) (aCons (dVar 10) aNil)))))) (tVal (dOp rdNe (dCB rdRepr (aCons (dCall (fun xs c P => xs.length = 2 ∧ sp_mirrored_rules xs c P) (aCons (dVar 3) (aCons (dVar 4) aNil))) aNil)) (dCB rdRepr (aCons (dVar 10) aNil))))) (sRet (dC (.bool false))) sNx) (sIf (tOo (tVal (dOp rdNe (dCB rdRepr (aCons (dCall (fun xs c P => xs.length = 2 ∧ sp_mirrored_rules xs c P) (aCons (dVar 3) (aCons (dVar 10) aNil))) aNil)) (dVar 5))) (tVal (dOp rdNe (dCB rdRepr (aCons (dVar 4) aNil)) (dVar 5)))) (sRet (dC (.bool false))) sNx)))))))) (sRet (dC (.bool true)))))
def sp_law : DL.Spec := bodySpec 12 dt_law
/-! ### each def keeps that -/
section
variable {P : Program} {w : World} {K : PySem.W.Frag} {mg : Str → Option Value} {base : Heap}
theorem ok_turned_rules {f : Addr} {fd : FuncData} (F : Fun K "turned_rules" "turned_rules" s_turned_rules f fd) (hm : mg "turned_rules" = some (.ref f)) (hb : Binds K fd ["n", "rules", "place"] []) (m_tuple : mg "tuple" = none) : Def P w K mg base 1 "turned_rules" 3 sp_turned_rules := by
  have nd := sc_turned_rules.nd
  refine def_of (N := N_turned_rules) (dt := dt_turned_rules) F sc_turned_rules hm hb rfl (fun cdv A outer s H E hr hgd => ?_)
  exact (ds_one (ds_ret (de_callT call_tuple_of cd_tuple m_tuple (by decide +kernel) (da_cons (de_lc [("first", 3), ("size", 4), ("least", 5), ("most", 6)] nd (dw_tup (de_var 1)) (blkOk_by (N := N_turned_rules) (sc := defScope s_turned_rules) (by decide +kernel)) (fun _ _ _ _ _ => (dg_tup (dgs_cons (dg_name 3 nd) (dgs_cons (dg_name 4 nd) (dgs_cons (dg_name 5 nd) (dgs_cons (dg_name 6 nd) dgs_nil)))))) (fun _ _ _ _ _ => dts_nil) (fun _ _ _ _ _ => (de_tup (da_cons (de_mod (de_sub (de_var 3) (de_var 2)) (de_var 0)) (da_cons (de_var 4) (da_cons (de_var 5) (da_cons (de_var 6) da_nil))))))) da_nil))))
theorem ok_mirrored_rules {f : Addr} {fd : FuncData} (F : Fun K "mirrored_rules" "mirrored_rules" s_mirrored_rules f fd) (hm : mg "mirrored_rules" = some (.ref f)) (hb : Binds K fd ["n", "rules"] []) (m_tuple : mg "tuple" = none) : Def P w K mg base 1 "mirrored_rules" 2 sp_mirrored_rules := by
  have nd := sc_mirrored_rules.nd
  refine def_of (N := N_mirrored_rules) (dt := dt_mirrored_rules) F sc_mirrored_rules hm hb rfl (fun cdv A outer s H E hr hgd => ?_)
  exact (ds_one (ds_ret (de_callT call_tuple_of cd_tuple m_tuple (by decide +kernel) (da_cons (de_lc [("first", 2), ("size", 3), ("least", 4), ("most", 5)] nd (dw_tup (de_var 1)) (blkOk_by (N := N_mirrored_rules) (sc := defScope s_mirrored_rules) (by decide +kernel)) (fun _ _ _ _ _ => (dg_tup (dgs_cons (dg_name 2 nd) (dgs_cons (dg_name 3 nd) (dgs_cons (dg_name 4 nd) (dgs_cons (dg_name 5 nd) dgs_nil)))))) (fun _ _ _ _ _ => dts_nil) (fun _ _ _ _ _ => (de_tup (da_cons (de_mod (de_sub (de_sub de_int (de_var 2)) (de_var 3)) (de_var 0)) (da_cons (de_var 3) (da_cons (de_var 4) (da_cons (de_var 5) da_nil))))))) da_nil))))
theorem ok__law_same {f : Addr} {fd : FuncData} (F : Fun K "_law_same" "_law_same" s__law_same f fd) (hm : mg "_law_same" = some (.ref f)) (hb : Binds K fd ["_law_value", "_law_due"] []) (m_repr : mg "repr" = none) : Def P w K mg base 1 "_law_same" 2 sp__law_same := by
  have nd := sc__law_same.nd
  refine def_of (N := N__law_same) (dt := dt__law_same) F sc__law_same hm hb rfl (fun cdv A outer s H E hr hgd => ?_)
  exact (ds_one (ds_ret (de_eq hr (de_callB (cr_repr hgd hr.units) cd_repr m_repr (by decide +kernel) (da_cons (de_var 0) da_nil)) (de_callB (cr_repr hgd hr.units) cd_repr m_repr (by decide +kernel) (da_cons (de_var 1) da_nil)))))
theorem ok__law_rule {f : Addr} {fd : FuncData} (F : Fun K "_law_rule" "_law_rule" s__law_rule f fd) (hm : mg "_law_rule" = some (.ref f)) (hb : Binds K fd ["_law_deck_here", "_law_n"] []) (m_max : mg "max" = none) (m_min : mg "min" = none) (d__law_draw : Def P w K mg base 1 "_law_draw" 2 sp__law_draw) : Def P w K mg base 2 "_law_rule" 2 sp__law_rule := by
  have nd := sc__law_rule.nd
  refine def_of (N := N__law_rule) (dt := dt__law_rule) F sc__law_rule hm hb rfl (fun cdv A outer s H E hr hgd => ?_)
  exact (ds_cons (ds_par 2 3 nd (da_cons (de_call d__law_draw (hr.mono (by decide)) hgd (da_cons (de_var 0) (da_cons (de_var 1) da_nil))) (da_cons (de_add de_int (de_call d__law_draw (hr.mono (by decide)) hgd (da_cons (de_var 0) (da_cons (de_var 1) da_nil)))) da_nil))) (ds_cons (ds_set 4 nd (de_item (de_lst (da_cons de_int (da_cons de_int (da_cons (de_call d__law_draw (hr.mono (by decide)) hgd (da_cons (de_var 0) (da_cons de_int da_nil))) (da_cons (de_call d__law_draw (hr.mono (by decide)) hgd (da_cons (de_var 0) (da_cons de_int da_nil))) (da_cons (de_pow de_int de_int) (da_cons (de_sub (de_pow de_int de_int) de_int) da_nil))))))) (de_call d__law_draw (hr.mono (by decide)) hgd (da_cons (de_var 0) (da_cons de_int da_nil))))) (ds_cons (ds_set 5 nd (de_lst (da_cons de_non (da_cons de_non (da_cons (de_add (de_var 4) (de_call d__law_draw (hr.mono (by decide)) hgd (da_cons (de_var 0) (da_cons de_int da_nil)))) (da_cons (de_call d__law_draw (hr.mono (by decide)) hgd (da_cons (de_var 0) (da_cons de_int da_nil))) (da_cons (de_pow de_int de_int) (da_cons (de_var 4) (da_cons (de_sub (de_var 4) de_int) da_nil))))))))) (ds_cons (ds_set 6 nd (de_item (de_var 5) (de_call d__law_draw (hr.mono (by decide)) hgd (da_cons (de_var 0) (da_cons de_int da_nil))))) (ds_cons (ds_if (dt_notN (de_var 6)) (ds_one (ds_set 6 nd (de_callB (call_max2 rfl) cd_max2 m_max (by decide +kernel) (da_cons de_int (da_cons (de_callB (call_min2 rfl) cd_min2 m_min (by decide +kernel) (da_cons (de_pow de_int de_int) (da_cons (de_var 6) da_nil))) da_nil))))) ds_nil) (ds_one (ds_ret (de_tup (da_cons (de_var 2) (da_cons (de_var 3) (da_cons (de_var 4) (da_cons (de_var 6) da_nil))))))))))))
theorem ok__law_rules {f : Addr} {fd : FuncData} (F : Fun K "_law_rules" "_law_rules" s__law_rules f fd) (hm : mg "_law_rules" = some (.ref f)) (hb : Binds K fd ["_law_deck_here", "_law_n", "_law_many"] []) (m_range : mg "range" = none) (m_tuple : mg "tuple" = none) (d__law_draw : Def P w K mg base 1 "_law_draw" 2 sp__law_draw) (d__law_rule : Def P w K mg base 2 "_law_rule" 2 sp__law_rule) : Def P w K mg base 3 "_law_rules" 3 sp__law_rules := by
  have nd := sc__law_rules.nd
  refine def_of (N := N__law_rules) (dt := dt__law_rules) F sc__law_rules hm hb rfl (fun cdv A outer s H E hr hgd => ?_)
  exact (ds_one (ds_ret (de_callT call_tuple_of cd_tuple m_tuple (by decide +kernel) (da_cons (de_lc [("_law_k", 3)] nd (dw_r1 (da_cons (de_call d__law_draw (hr.mono (by decide)) hgd (da_cons (de_var 0) (da_cons (de_add (de_var 2) de_int) da_nil))) da_nil) m_range) (blkOk_by (N := N__law_rules) (sc := defScope s__law_rules) (by decide +kernel)) (fun _ _ _ _ _ => (dg_name 3 nd)) (fun _ _ _ _ _ => dts_nil) (fun _ _ _ _ _ => (de_call d__law_rule (hr.mono (by decide)) hgd (da_cons (de_var 0) (da_cons (de_var 1) da_nil))))) da_nil))))
theorem ok__law_window {f : Addr} {fd : FuncData} (F : Fun K "_law_window" "_law_window" s__law_window f fd) (hm : mg "_law_window" = some (.ref f)) (hb : Binds K fd ["_law_n", "_law_first", "_law_size"] []) (m_range : mg "range" = none) (m_sorted : mg "sorted" = none) : Def P w K mg base 1 "_law_window" 3 sp__law_window := by
  have nd := sc__law_window.nd
  refine def_of (N := N__law_window) (dt := dt__law_window) F sc__law_window hm hb rfl (fun cdv A outer s H E hr hgd => ?_)
  exact (ds_one (ds_ret (de_callB cr_sorted cd_sorted m_sorted (by decide +kernel) (da_cons (de_lc [("_law_step", 3)] nd (dw_r1 (da_cons (de_var 2) da_nil) m_range) (blkOk_by (N := N__law_window) (sc := defScope s__law_window) (by decide +kernel)) (fun _ _ _ _ _ => (dg_name 3 nd)) (fun _ _ _ _ _ => dts_nil) (fun _ _ _ _ _ => (de_mod (de_add (de_var 1) (de_var 3)) (de_var 0)))) da_nil))))
theorem ok__law_mirrored_right {f : Addr} {fd : FuncData} (F : Fun K "_law_mirrored_right" "_law_mirrored_right" s__law_mirrored_right f fd) (hm : mg "_law_mirrored_right" = some (.ref f)) (hb : Binds K fd ["_law_n", "_law_rules_here", "_law_found"] []) (m_isinstance : mg "isinstance" = none) (m_len : mg "len" = none) (m_repr : mg "repr" = none) (m_sorted : mg "sorted" = none) (m_tuple : mg "tuple" = none) (m_zip : mg "zip" = none) (d__law_same : Def P w K mg base 1 "_law_same" 2 sp__law_same) (d__law_window : Def P w K mg base 1 "_law_window" 3 sp__law_window) : Def P w K mg base 2 "_law_mirrored_right" 3 sp__law_mirrored_right := by
  have nd := sc__law_mirrored_right.nd
  refine def_of (N := N__law_mirrored_right) (dt := dt__law_mirrored_right) F sc__law_mirrored_right hm hb rfl (fun cdv A outer s H E hr hgd => ?_)
  exact (ds_cons (ds_if (dt_w (dw_or (dt_not (dt_val (de_isi kit_tup m_isinstance m_tuple (by decide +kernel) (de_var 2)))) (dw_or1 (dt_ne hr (de_callB call_len_seq cd_len m_len (by decide +kernel) (da_cons (de_var 2) da_nil)) (de_callB call_len_seq cd_len m_len (by decide +kernel) (da_cons (de_var 1) da_nil)))))) (ds_one (ds_ret de_bl)) ds_nil) (ds_cons (ds_for (dw_zipT (da_cons (de_var 1) (da_cons (de_var 2) da_nil)) m_zip) (dg_tup (dgs_cons (dg_name 3 nd) (dgs_cons (dg_name 4 nd) dgs_nil))) (ds_cons (ds_if (dt_w (dw_or (dt_not (dt_val (de_isi kit_tup m_isinstance m_tuple (by decide +kernel) (de_var 4)))) (dw_or (dt_ne hr (de_callB (cr_repr hgd hr.units) cd_repr m_repr (by decide +kernel) (da_cons (de_slT (de_var 4) (do_some de_int) do_none) da_nil)) (de_callB (cr_repr hgd hr.units) cd_repr m_repr (by decide +kernel) (da_cons (de_slT (de_var 3) (do_some de_int) do_none) da_nil))) (dw_or1 (dt_not (dt_chain op_le op_lt od_le od_lt de_int (de_item (de_var 4) de_int) (de_var 0))))))) (ds_one (ds_ret de_bl)) ds_nil) (ds_cons (ds_set 5 nd (de_mod (de_sub (de_add (de_item (de_var 3) de_int) (de_item (de_var 3) de_int)) de_int) (de_var 0))) (ds_cons (ds_if (dt_not (dt_val (de_call d__law_same (hr.mono (by decide)) hgd (da_cons (de_item (de_var 4) de_int) (da_cons (de_sub (de_sub (de_var 0) de_int) (de_var 5)) da_nil))))) (ds_one (ds_ret de_bl)) ds_nil) (ds_cons (ds_set 6 nd (de_callB cr_sorted cd_sorted m_sorted (by decide +kernel) (da_cons (de_lc [("_law_place", 7)] nd (dw_list (de_call d__law_window (hr.mono (by decide)) hgd (da_cons (de_var 0) (da_cons (de_item (de_var 3) de_int) (da_cons (de_item (de_var 3) de_int) da_nil))))) (blkOk_by (N := N__law_mirrored_right) (sc := defScope s__law_mirrored_right) (by decide +kernel)) (fun _ _ _ _ _ => (dg_name 7 nd)) (fun _ _ _ _ _ => dts_nil) (fun _ _ _ _ _ => (de_sub (de_sub (de_var 0) de_int) (de_var 7)))) da_nil))) (ds_one (ds_if (dt_ne hr (de_call d__law_window (hr.mono (by decide)) hgd (da_cons (de_var 0) (da_cons (de_item (de_var 4) de_int) (da_cons (de_item (de_var 4) de_int) da_nil)))) (de_var 6)) (ds_one (ds_ret de_bl)) ds_nil))))))) (ds_one (ds_ret de_bl))))
theorem ok_law {f fK : Addr} {fd fdK : FuncData} (F : Fun K "law" "law" s_law f fd) (fnDeck : FnG P w K mg base 1 fK fdK ["_law_script"] (spDeck K)) (m__law_deck : mg "_law_deck" = some (.ref fK)) (kDeck : PySem.W.keepIn K (.ref fK) = true) (bDeck : Binds K fdK ["_law_script"] []) (m_int : mg "int" = none) (m_range : mg "range" = none) (m_repr : mg "repr" = none) (d__law_draw : Def P w K mg base 1 "_law_draw" 2 sp__law_draw) (d__law_mirrored_right : Def P w K mg base 2 "_law_mirrored_right" 3 sp__law_mirrored_right) (d__law_rules : Def P w K mg base 3 "_law_rules" 3 sp__law_rules) (d__law_same : Def P w K mg base 1 "_law_same" 2 sp__law_same) (d_mirrored_rules : Def P w K mg base 1 "mirrored_rules" 2 sp_mirrored_rules) (d_turned_rules : Def P w K mg base 1 "turned_rules" 3 sp_turned_rules) : FnG P w K mg base 4 f fd ["_law_script"] (spTop K sp_law) := by
  have nd := sc_law.nd
  refine top_of (N := N_law) (dt := dt_law) F sc_law rfl (fun cdv A outer s H E ht hr hgd => ?_)
  exact (ds_cons (ds_deck 1 0 fnDeck (hr.mono (by decide)) hgd m__law_deck kDeck bDeck nd ht (pv 0)) (ds_cons (ds_for (dw_r1 (da_cons de_int da_nil) m_range) (dg_name 2 nd) (ds_cons (ds_set 3 nd (de_item (de_lst (da_cons (de_add de_int (de_call d__law_draw (hr.mono (by decide)) hgd (da_cons (de_var 1) (da_cons de_int da_nil)))) (da_cons de_int (da_cons de_int da_nil)))) (de_mod (de_var 2) de_int))) (ds_cons (ds_set 4 nd (de_call d__law_rules (hr.mono (by decide)) hgd (da_cons (de_var 1) (da_cons (de_var 3) (da_cons de_int da_nil))))) (ds_cons (ds_set 5 nd (de_callB (cr_repr hgd hr.units) cd_repr m_repr (by decide +kernel) (da_cons (de_var 4) da_nil))) (ds_cons (ds_for (dw_r1 (da_cons (de_var 3) da_nil) m_range) (dg_name 6 nd) (ds_cons (ds_set 7 nd (de_tup da_nil)) (ds_cons (ds_for (dw_tup (de_var 4)) (dg_name 8 nd) (ds_cons (ds_set 9 nd (de_add (de_sub (de_item (de_var 8) de_int) (de_var 6)) (de_mul (de_var 3) (de_callT call_int1 cd_int1 m_int (by decide +kernel) (da_cons (de_lt (de_item (de_var 8) de_int) (de_var 6)) da_nil))))) (ds_one (ds_set 7 nd (de_addU (de_var 7) (de_tup (da_cons (de_addU (de_tup (da_cons (de_var 9) da_nil)) (de_slT (de_var 8) (do_some de_int) do_none)) da_nil))))))) (ds_cons (ds_setLc 10 [("_law_again", 11)] nd (dw_r1 (da_cons de_int da_nil) m_range) (blkOk_by (N := N_law) (sc := defScope s_law) (by decide +kernel)) (fun _ _ _ _ _ => (dg_name 11 nd)) (fun _ _ _ _ _ => dts_nil) (fun _ _ _ _ _ => (de_call d_turned_rules (hr.mono (by decide)) hgd (da_cons (de_var 3) (da_cons (de_var 4) (da_cons (de_var 6) da_nil))))) (sw_true rfl rfl rfl (by decide +kernel))) (ds_one (ds_if (dt_not (dt_val (de_call d__law_same (hr.mono (by decide)) hgd (da_cons (de_var 10) (da_cons (de_lst (da_cons (de_var 7) (da_cons (de_var 7) da_nil))) da_nil))))) (ds_one (ds_ret de_bl)) ds_nil)))))) (ds_cons (ds_set 10 nd (de_call d_mirrored_rules (hr.mono (by decide)) hgd (da_cons (de_var 3) (da_cons (de_var 4) da_nil)))) (ds_cons (ds_if (dt_w (dw_or (dt_not (dt_val (de_call d__law_mirrored_right (hr.mono (by decide)) hgd (da_cons (de_var 3) (da_cons (de_var 4) (da_cons (de_var 10) da_nil)))))) (dw_or1 (dt_ne hr (de_callB (cr_repr hgd hr.units) cd_repr m_repr (by decide +kernel) (da_cons (de_call d_mirrored_rules (hr.mono (by decide)) hgd (da_cons (de_var 3) (da_cons (de_var 4) da_nil))) da_nil)) (de_callB (cr_repr hgd hr.units) cd_repr m_repr (by decide +kernel) (da_cons (de_var 10) da_nil)))))) (ds_one (ds_ret de_bl)) ds_nil) (ds_one (ds_if (dt_w (dw_or (dt_ne hr (de_callB (cr_repr hgd hr.units) cd_repr m_repr (by decide +kernel) (da_cons (de_call d_mirrored_rules (hr.mono (by decide)) hgd (da_cons (de_var 3) (da_cons (de_var 10) da_nil))) da_nil)) (de_var 5)) (dw_or1 (dt_ne hr (de_callB (cr_repr hgd hr.units) cd_repr m_repr (by decide +kernel) (da_cons (de_var 4) da_nil)) (de_var 5))))) (ds_one (ds_ret de_bl)) ds_nil))))))))) (ds_one (ds_ret de_bl))))
end
/-! ### the deck and its draws -/
theorem sc__law_draw : FnScope ["_law_deck_here", "_law_limit", "_law_cell", "_law_index"] ["_law_deck_here", "_law_limit"] (defScope s__law_draw) := ⟨rfl, rfl, rfl, by decide +kernel, rfl, by decide +kernel, by decide +kernel⟩
theorem sc__law_deck : FnScope ["_law_script", "_law_cell"] ["_law_script"] (defScope s__law_deck) := ⟨rfl, rfl, rfl, by decide +kernel, rfl, by decide +kernel, by decide +kernel⟩
theorem nn_set {ns : List Int} {j : Nat} {z : Int} (h : ∀ n ∈ ns, 0 ≤ n) (hz : 0 ≤ z) : ∀ n ∈ ns.set j z, 0 ≤ n := fun n hn => by
  rcases List.mem_or_eq_of_mem_set hn with e | e
  · exact h n e
  · rw [e]
    exact hz
section
variable {P : Program} {w : World} {K : PySem.W.Frag} {mg : Str → Option Value} {base : Heap}
theorem ok__law_draw {f : Addr} {fd : FuncData} (F : Fun K "_law_draw" "_law_draw" s__law_draw f fd) (hm : mg "_law_draw" = some (.ref f)) (hb : Binds K fd ["_law_deck_here", "_law_limit"] []) (m_len : mg "len" = none) : Def P w K mg base 1 "_law_draw" 2 drawSpec := by
  have nd := sc__law_draw.nd
  refine ⟨f, fd, _, fnG_of F sc__law_draw (fun vs H Q E q => ?_) (fun cdv A outer s H vs Q hr hgd q => ?_), hm, F.kp, hb⟩
  · obtain ⟨g, c, args, P, _, _, ok, _, hl, _⟩ := q
    rw [VOks.len ok, hl]
    rfl
  · obtain ⟨g, c, args, P', ex, dk, ok, fr, hl, hs, kk⟩ := q
    unfold drawSpec at hs
    split at hs
    case h_2 => exact hs.elim
    rename_i m
    obtain ⟨hm0, hm1, hc, hP⟩ := hs
    match vs, ok with
    | [v, u], ok =>
    obtain ⟨⟨p, q, hdk, rfl⟩, hu, _⟩ := ok
    have hu := dp_int hu
    subst hu
    obtain ⟨hpq, fp, fq, ns, h0, h63, hq, hp⟩ := dk p q hdk
    refine ⟨_, pss_cons (ps_asg (pe_op op_add (pe_ix ix_list (pv 0) pe_int (fun _ _ => rfl)) pe_int) (pg_sub (pv 0) pe_int set_list))
      (pss_cons (ps_asg (pe_tup (pa_cons pe_int (pa_cons (pe_un un_neg pe_int) pa_nil))) (pg_tup rfl (pgs_cons (pg_name (i := 2) nd rfl (.inl rfl)) (pgs_cons (pg_name (i := 3) nd rfl (.inl rfl)) pgs_nil))))
      (pss_cons (ps_if (pt_cmpR op_gt (pe_callB call_len_seq rfl m_len PySem.boot_len (pa_cons (pe_ix ix_list (pv 0) pe_int (fun _ _ => rfl)) pa_nil)) pe_int (nomark _))
          (pss_cons (ps_set (i := 3) nd rfl (.inl rfl) (pe_op op_mod (pe_ix ix_list (pv 0) pe_int (fun _ _ => rfl)) (pe_callB call_len_seq rfl m_len PySem.boot_len (pa_cons (pe_ix ix_list (pv 0) pe_int (fun _ _ => rfl)) pa_nil))))
            (pss_one (ps_set (i := 2) nd rfl (.inl rfl) (pe_ix ix_list (pe_ix ix_list (pv 0) pe_int (fun _ _ => rfl)) (pv 3) (fun _ _ => rfl)))))
          pss_nil)
      (pss_cons (ps_if (pt_cmpR op_ge (pv 2) (pe_op op_pow pe_int pe_int) (nomark _))
          (pss_cons (ps_asg (pe_op op_fdiv (pv 2) (pv 1)) (pg_sub (pe_ix ix_list (pv 0) pe_int (fun _ _ => rfl)) (pv 3) set_list))
            (pss_one (ps_ret (pe_op op_mod (pv 2) (pv 1)))))
          pss_nil)
      (pss_one (ps_ret (pe_op op_mod (pe_op op_fdiv (pe_op op_mod (pe_op op_pow (pe_op op_add (pe_op op_add (pe_op op_mod (pv 2) pe_int) (pe_op op_mul pe_int (pe_ix ix_list (pv 0) pe_int (fun _ _ => rfl)))) pe_int) pe_int) pe_int) pe_int) (pv 1))))))), ?_⟩
    refine ⟨.ref p, rfl, p, _, 1, .int (c : Int), rfl, rfl, .of hp, rfl, (c : Int), 1, rfl, rfl, .ref p, rfl, p, _, 1, 1, rfl, rfl, hp, rfl, ?_⟩
    have hp1 : upd H p (.lst ([V.ref q, .int (c : Int)].set 1 (.int ((c : Int) + 1)))) p = some (.lst [.ref q, .int ((c : Int) + 1)]) := upd_same
    have hq1 : upd H p (.lst ([V.ref q, .int (c : Int)].set 1 (.int ((c : Int) + 1)))) q = some (.lst (ns.map V.int)) := by
      rw [upd_ne hpq.symm]
      exact hq
    have hs1 : ∀ b, b ≠ p → b ≠ q → upd H p (.lst ([V.ref q, .int (c : Int)].set 1 (.int ((c : Int) + 1)))) b = H b := fun b h _ => upd_ne h
    generalize upd H p (.lst ([V.ref q, .int (c : Int)].set 1 (.int ((c : Int) + 1)))) = H1 at hp1 hq1 hs1 ⊢
    -- cell, index = 0, -1: a pair that nobody keeps
    refine ⟨1, rfl, by show 2 ≤ sizeLine; decide, fun T hT => ⟨T, _, rfl, .of upd_same, rfl, .int 0, _, rfl, .int (-1), _, rfl, rfl, ?_⟩⟩
    have hp2 : upd H1 T (.tup [.int 0, .int (-1)]) p = some (.lst [.ref q, .int ((c : Int) + 1)]) := by
      rw [upd_ne (ne_of_none hp1 hT)]
      exact hp1
    have hq2 : upd H1 T (.tup [.int 0, .int (-1)]) q = some (.lst (ns.map V.int)) := by
      rw [upd_ne (ne_of_none hq1 hT)]
      exact hq1
    have hs2 : ∀ b o, b ≠ p → b ≠ q → H b = some o → upd H1 T (.tup [.int 0, .int (-1)]) b = some o := fun b o n1 n2 e => by
      have e1 : H1 b = some o := by
        rw [hs1 b n1 n2]
        exact e
      rw [upd_ne (ne_of_none e1 hT)]
      exact e1
    generalize upd H1 T (.tup [.int 0, .int (-1)]) = H2 at hp2 hq2 hs2 ⊢
    have pw : ∀ cell : Int, CPow (cell % 2147483587 + 7919 * ((c : Int) + 1) + 1) 5 := fun cell => ⟨by decide, by decide, by omega⟩
    have md : ∀ z : Int, 0 ≤ z % m ∧ z % m < m := fun z => ⟨Int.emod_nonneg _ (by omega), Int.emod_lt_of_pos _ hm0⟩
    have out : ∀ (z : Int) (ms : List Int) (H3 : Hp), (∀ n ∈ ms, 0 ≤ n) → ms.length ≤ 63 → H3 q = some (.lst (ms.map V.int)) → H3 p = some (.lst [.ref q, .int ((c : Int) + 1)]) → (∀ b o, b ≠ p → b ≠ q → H b = some o → H3 b = some o) → Q (.int (z % m)) H3 := fun z ms H3 a0 a63 aq ap as => by
      obtain ⟨k1, k2, k3⟩ := deck_after (c := c + 1) ex hdk hpq fp fq as a0 a63 aq (by rw [ap]; simp)
      exact kk _ (c + 1) g H3 _ (hP _ (md z).1 (md z).2) k1 k2 k3 (.int _) trivial
    -- len(deck[0]) > 0
    refine ⟨.ref p, rfl, p, _, 0, .ref q, rfl, rfl, .of hp2, rfl, q, _, rfl, .inl (.of hq2), _, 0, rfl, rfl, _, rfl, ite2 (fun e => ?_) (fun e => ?_)⟩
    · have hpos : 0 < ns.length := by
        have := of_decide_eq_true e
        rw [List.length_map] at this
        omega
      obtain ⟨j, hj, hlt⟩ : ∃ j : Nat, ((c : Int) + 1) % ((ns.map V.int).length : Int) = (j : Int) ∧ j < ns.length := ⟨(c + 1) % ns.length, by rw [List.length_map]; simp, Nat.mod_lt _ hpos⟩
      obtain ⟨cell, hget, hcell⟩ : ∃ cell : Int, (ns.map V.int)[j]? = some (.int cell) ∧ 0 ≤ cell := ⟨ns[j], by rw [List.getElem?_map, List.getElem?_eq_getElem hlt]; rfl, h0 _ (List.getElem_mem hlt)⟩
      refine ⟨.ref p, rfl, p, _, 1, _, rfl, rfl, .of hp2, rfl, .ref p, rfl, p, _, 0, .ref q, rfl, rfl, .of hp2, rfl, q, _, rfl, .inl (.of hq2), _, _, rfl, rfl, (by rw [List.length_map]; omega), ?_⟩
      refine ⟨.ref p, rfl, p, _, 0, .ref q, rfl, rfl, .of hp2, rfl, _, rfl, q, _, _, .int cell, rfl, rfl, .of hq2, at_of hj hget, ?_⟩
      -- cell >= 10 ** 18
      refine ⟨_, rfl, 10, 18, rfl, rfl, ⟨by decide, by decide, by decide⟩, _, _, rfl, rfl, _, rfl, ite2 (fun e2 => ?_) (fun e2 => ?_)⟩
      · have hdiv : 0 ≤ cell / m := Int.ediv_nonneg hcell (by omega)
        refine ⟨_, rfl, _, rfl, _, _, rfl, rfl, ⟨hm0, hm1⟩, .ref p, rfl, p, _, 0, .ref q, rfl, rfl, .of hp2, rfl, _, rfl, q, _, _, j, rfl, rfl, hq2, ?_, ?_⟩
        · rw [hj]
          unfold ixN
          rw [List.length_map, if_pos (by omega), if_pos (by omega)]
          rfl
        · refine ⟨_, rfl, _, rfl, _, _, rfl, rfl, hm0, ?_⟩
          refine out cell (ns.set j (cell / m)) _ (nn_set h0 hdiv) (by rw [List.length_set]; exact h63) ?_ ?_ ?_
          · rw [upd_same, List.map_set]
          · rw [upd_ne hpq]
            exact hp2
          · intro b o n1 n2 e3
            rw [upd_ne n2]
            exact hs2 b o n1 n2 e3
      · refine ⟨_, rfl, _, 2147483587, rfl, rfl, by show (0 : Int) < 2147483587; decide, .ref p, rfl, p, _, 1, _, rfl, rfl, .of hp2, rfl, 7919, _, rfl, rfl, .inl ⟨by decide, by decide⟩, _, _, rfl, rfl, _, 1, rfl, rfl, _, 5, rfl, rfl, ?_, _, 2147483647, rfl, rfl, by show (0 : Int) < 2147483647; decide, _, 7, rfl, rfl, ⟨by decide, by decide⟩, _, rfl, _, m, rfl, rfl, hm0, ?_⟩
        · exact pw cell
        · exact out _ ns H2 h0 h63 hq2 hp2 hs2
    · -- cell = 0
      refine ⟨.int 0, rfl, 10, 18, rfl, rfl, ⟨by decide, by decide, by decide⟩, _, _, rfl, rfl, _, rfl, ite2 (fun e2 => ?_) (fun e2 => ?_)⟩
      · exact absurd e2 (by decide)
      · refine ⟨_, rfl, _, 2147483587, rfl, rfl, by show (0 : Int) < 2147483587; decide, .ref p, rfl, p, _, 1, _, rfl, rfl, .of hp2, rfl, 7919, _, rfl, rfl, .inl ⟨by decide, by decide⟩, _, _, rfl, rfl, _, 1, rfl, rfl, _, 5, rfl, rfl, ?_, _, 2147483647, rfl, rfl, by show (0 : Int) < 2147483647; decide, _, 7, rfl, rfl, ⟨by decide, by decide⟩, _, rfl, _, m, rfl, rfl, hm0, ?_⟩
        · exact pw 0
        · exact out _ ns H2 h0 h63 hq2 hp2 hs2
theorem ok__law_deck {f : Addr} {fd : FuncData} (F : Fun K "_law_deck" "_law_deck" s__law_deck f fd) (m_abs : mg "abs" = none) : FnG P w K mg base 1 f fd ["_law_script"] (spDeck K) := by
  have nd := sc__law_deck.nd
  refine fnG_of F sc__law_deck (fun vs H Q E q => ?_) (fun cdv A outer s H vs Q hr hgd q => ?_)
  · obtain ⟨a, ns, rfl, _⟩ := q
    rfl
  · obtain ⟨a, ns, rfl, hS, hlen, kk⟩ := q
    refine ⟨_, pss_one (ps_ret (pe_lst (pa_cons (pe_lc (own := [("_law_cell", 1)]) (g := gName 1) (tt := tYes) rfl nd (pi_list (pe_slice sl_list (pv 0) po_none (po_some pe_int))) (blkOk_by (N := ["_law_script", "_law_cell"]) (sc := defScope s__law_deck) (by decide +kernel))
        (fun _ _ _ _ _ => pg_name (i := 1) nd rfl (Or.inl rfl)) (fun _ _ _ _ _ => pts_nil) (fun _ _ _ _ _ => pe_callB call_abs rfl m_abs (by decide +kernel) (pa_cons (pv 1) pa_nil))) (pa_cons pe_int pa_nil)))), ?_⟩
    refine ⟨.ref a, rfl, 63, rfl, a, _, rfl, hS, fun S hSn => ?_⟩
    have sm0 : Same H (upd H S (.lst (cutV (ns.map V.int) none (some 63)))) := fun b o e => by
      rw [upd_ne (ne_of_none e hSn)]
      exact e
    have hS1 : upd H S (.lst (cutV (ns.map V.int) none (some 63))) S = some (.lst (cutV (ns.map V.int) none (some 63))) := upd_same
    have hcut : cutV (ns.map V.int) none (some 63) = ns.map V.int := by
      unfold cutV
      rw [HT.sIx_none, show HT.sIx (ns.map V.int).length (ns.map V.int).length (some 63) = min 63 (ns.map V.int).length from HT.sIx_nat _ _ 63]
      rw [List.length_map, Nat.min_eq_right hlen]
      show List.take ns.length (List.map V.int ns) = List.map V.int ns
      exact List.take_of_length_le (by rw [List.length_map]; exact Nat.le_refl _)
    rw [hcut] at hS1 sm0 ⊢
    generalize upd H S (.lst (ns.map V.int)) = H1 at hS1 sm0 ⊢
    refine ⟨S, rfl, ⟨_, .of hS1⟩, fun Dl hD => ?_⟩
    have abs_nn : ∀ n : Int, (if n < 0 then -n else n) = (n.natAbs : Int) := fun n => by
      split <;> omega
    refine lc_list (xs := ns.map V.int) (fun i H2 => H2 Dl = some (.lst ((ns.take i).map fun n => V.int n.natAbs)) ∧ ∀ b o, H1 b = some o → H2 b = some o) ⟨upd_same, fun b o e => by rw [upd_ne (ne_of_none e hD)]; exact e⟩ (fun i H2 _ h => .of (h.2 S _ hS1)) (fun i x H2 hx h => ?_) (fun H2 h => ?_)
    · have hi : i < ns.length := by
        have := (List.getElem?_eq_some_iff.mp hx).1
        rw [List.length_map] at this
        exact this
      have ex : x = .int ns[i] := by
        rw [List.getElem?_map, List.getElem?_eq_getElem hi] at hx
        exact (Option.some.inj hx).symm
      subst ex
      refine ⟨rfl, _, rfl, ns[i], rfl, _, h.1, ?_, ?_, fun b o e => ?_⟩
      · rw [List.length_map, List.length_take]
        exact small1000 (by omega)
      · rw [upd_same, abs_nn, List.take_add_one, List.getElem?_eq_getElem hi, List.map_append]
        rfl
      · rw [upd_ne (ne_of_none e hD)]
        exact h.2 b o e
    · refine ⟨by show 2 ≤ sizeLine; decide, fun p hp => ?_⟩
      have pD : p ≠ Dl := fun z => by
        rw [z, h.1] at hp
        cases hp
      have up : ∀ b o, H b = some o → upd H2 p (.lst [.ref Dl, .int 0]) b = some o := fun b o e => by
        have e2 := h.2 b o (sm0 b o e)
        rw [upd_ne (ne_of_none e2 hp)]
        exact e2
      have fresh : ∀ b, H2 b = none → H b = none := fun b e => by
        cases w : H b with
        | none => rfl
        | some o =>
          rw [h.2 b o (sm0 b o w)] at e
          cases e
      refine kk _ p Dl (ns.map fun n => (n.natAbs : Int)) up (fresh p hp) (Same.free sm0 hD) pD (fun n hn => ?_) (by rw [List.length_map]; exact hlen) ?_ upd_same
      · obtain ⟨z, _, rfl⟩ := List.mem_map.mp hn
        omega
      · rw [upd_ne pD.symm, h.1, List.length_map, List.take_length, List.map_map]
        rfl
end
end RW
namespace RW
open PySem PySem.Spec PyProof.Rows L2 DL
/-! ### drawn rules -/
theorem rule_ok {n : Int} (h0 : 0 < n) (h1 : n ≤ 1000) {c : Nat} {P : Vl → Nat → Prop} (hc : c ≤ 100000000) (hP : ∀ (r : R4) (c' : Nat), r.Ok n → c' ≤ c + 8 → P (.dat (rD r)) c') : sp__law_rule [.deck, .dat (.int n)] c P := by
  refine ⟨rfl, h0, by omega, by omega, fun r1 a1 b1 => ⟨rfl, h0, by omega, by omega, fun r2 a2 b2 => ?_⟩⟩
  refine ⟨rfl, by decide, by decide, by omega, fun r3 a3 b3 => ⟨rfl, by decide, by decide, by omega, fun r4 a4 b4 => ⟨⟨by decide, by decide, by decide⟩, ⟨by decide, by decide, by decide⟩, small_le (by show 6 ≤ 100000; decide), rfl, by decide, by decide, by omega, fun r5 a5 b5 => ?_⟩⟩⟩
  obtain ⟨z, hz, hm⟩ := atI_mem (ds := [PyData.int 0, .int 1, .int r3, .int r4, .int (10 ^ (9 : Int).toNat), .int (10 ^ (9 : Int).toNat - 2)]) a5 b5
  have p9 : (10 : Int) ^ (9 : Int).toNat = 1000000000 := by decide
  have hl : ∃ l : Int, z = .int l ∧ 0 ≤ l ∧ l ≤ 1000000000 := by
    rw [p9] at hm
    simp only [List.mem_cons, List.not_mem_nil, or_false] at hm
    rcases hm with rfl | rfl | rfl | rfl | rfl | rfl
    · exact ⟨_, rfl, by omega, by omega⟩
    · exact ⟨_, rfl, by omega, by omega⟩
    · exact ⟨_, rfl, by omega, by omega⟩
    · exact ⟨_, rfl, by omega, by omega⟩
    · exact ⟨_, rfl, by omega, by omega⟩
    · exact ⟨_, rfl, by omega, by omega⟩
  obtain ⟨l, rfl, l0, l1⟩ := hl
  refine ix_ok hz ?_
  refine ⟨rfl, by decide, by decide, by omega, fun r6 a6 b6 => ⟨rfl, by decide, by decide, by omega, fun r7 a7 b7 => ⟨⟨by decide, by decide, by decide⟩, small_le (by show 7 ≤ 100000; decide), rfl, by decide, by decide, by omega, fun r8 a8 b8 => ?_⟩⟩⟩
  obtain ⟨z, hz, hm⟩ := atI_mem (ds := [PyData.none, .none, .int (l + r6), .int r7, .int (10 ^ (9 : Int).toNat), .int l, .int (l - 1)]) a8 b8
  refine ix_ok hz ?_
  have hz2 : z = .none ∨ ∃ m : Int, z = .int m := by
    simp only [List.mem_cons, List.not_mem_nil, or_false] at hm
    rcases hm with rfl | rfl | rfl | rfl | rfl | rfl | rfl
    · exact .inl rfl
    · exact .inl rfl
    · exact .inr ⟨_, rfl⟩
    · exact .inr ⟨_, rfl⟩
    · exact .inr ⟨_, rfl⟩
    · exact .inr ⟨_, rfl⟩
    · exact .inr ⟨_, rfl⟩
  have big : ∀ x : Int, 0 ≤ x → x ≤ 1000000000 → x.natAbs < 2 ^ 200 := fun x x0 x1 => Nat.lt_of_lt_of_le (by omega : x.natAbs < 1000000001) (by decide)
  rcases hz2 with rfl | ⟨m, rfl⟩
  · exact ⟨small_le (by show 4 ≤ 100000; decide), hP ⟨r1, 1 + r2, l, none⟩ _ ⟨a1, b1, by show 1 ≤ 1 + r2; omega, by show 1 + r2 ≤ n; omega, l0, big l l0 l1, fun m e => by cases e⟩ (by omega)⟩
  · refine ⟨⟨by decide, by decide, by decide⟩, small_le (by show 4 ≤ 100000; decide), hP ⟨r1, 1 + r2, l, some (max 0 (min (10 ^ (9 : Int).toNat) m))⟩ _ ⟨a1, b1, by show 1 ≤ 1 + r2; omega, by show 1 + r2 ≤ n; omega, l0, big l l0 l1, fun m2 e => ?_⟩ (by omega)⟩
    cases e
    rw [p9]
    exact ⟨by omega, big _ (by omega) (by omega)⟩
theorem rules_ok {n k : Int} (h0 : 0 < n) (h1 : n ≤ 1000) (hk0 : 0 ≤ k) (hk1 : k ≤ 40) {c : Nat} {P : Vl → Nat → Prop} (hc : c ≤ 10000000) (hP : ∀ (rs : List R4) (c' : Nat), rs.length ≤ k.toNat → (∀ r ∈ rs, r.Ok n) → c' ≤ c + 1 + 8 * 40 → P (.dat (rDs rs)) c') : sp__law_rules [.deck, .dat (.int n), .dat (.int k)] c P := by
  refine ⟨rfl, by omega, by omega, by omega, fun q q0 q1 => ⟨by omega, by omega, by rw [rangeD_len]; exact small_len (by omega), ?_⟩⟩
  refine lcL_inv q.toNat (fun acc c' => ∃ rs : List R4, acc = rs.map rD ∧ (∀ r ∈ rs, r.Ok n) ∧ c' ≤ c + 1 + 8 * rs.length) (fun d acc c' kk hd hN hI hk => ?_) (by rw [rangeD_len]; simp) ⟨[], rfl, fun _ h => (nomatch h), by simp⟩ (fun out c' hI hl => ?_)
  · obtain ⟨rs, rfl, hrs, hcc⟩ := hI
    rw [List.length_map] at hN
    refine ⟨rfl, rule_ok h0 h1 (by omega) fun r c2 hr hc2 => hk _ _ ⟨rs ++ [r], by simp, fun x hx => ?_, ?_⟩⟩
    · rcases List.mem_append.mp hx with h | h
      · exact hrs x h
      · rw [List.mem_singleton] at h
        rw [h]
        exact hr
    · rw [List.length_append, List.length_singleton]
      omega
  · obtain ⟨rs, rfl, hrs, hcc⟩ := hI
    rw [List.length_map] at hl
    exact hP rs _ (by omega) hrs (by omega)
theorem same_ok {d : PyData} {c : Nat} {P : Vl → Nat → Prop} (h : shows d) (hP : P (.dat (.bool true)) c) : sp__law_same [.dat d, .dat d] c P := by
  refine ⟨h, h, ?_⟩
  show P (.dat (.bool (decide (d.shown = d.shown)))) c
  rw [decide_eq_true rfl]
  exact hP
end RW
namespace RW
open PySem PySem.Spec PyProof.Rows L2 DL
/-! ### turned and mirrored -/
def turn (n p : Int) (r : R4) : R4 := ⟨(r.f - p) % n, r.s, r.l, r.m⟩
def mirr (n : Int) (r : R4) : R4 := ⟨(0 - r.f - r.s) % n, r.s, r.l, r.m⟩
def re (g : Int → PyData → Int) : PyData → PyData
  | .tuple [.int f, s, l, m] => .tuple [.int (g f s), s, l, m]
  | d => d
def vI : PyData → Int
  | .int i => i
  | _ => 0
theorem turned_ok {n p : Int} {rs : List R4} (h0 : 0 < n) (hl : rs.length ≤ 1000) {c : Nat} {P : Vl → Nat → Prop} (hP : P (.dat (rDs (rs.map (turn n p)))) c) : sp_turned_rules [.dat (.int n), .dat (rDs rs), .dat (.int p)] c P := by
  refine ⟨by rw [List.length_map]; exact small_len (by omega), lcL_gen (fun _ => true) (re fun f _ => (f - p) % n) _ _ _ _ (fun d hd k2 rest acc hr => ?_) ?_⟩
  · obtain ⟨r, hr2, rfl⟩ := List.mem_map.mp hd
    exact ⟨rfl, h0, small_le (by show 4 ≤ 100000; decide), hr⟩
  · rw [List.filter_eq_self.mpr (fun _ _ => rfl), List.nil_append, List.map_map]
    unfold rDs at hP
    rw [List.map_map] at hP
    exact hP
theorem mirrored_ok {n : Int} {rs : List R4} (h0 : 0 < n) (hl : rs.length ≤ 1000) {c : Nat} {P : Vl → Nat → Prop} (hP : P (.dat (rDs (rs.map (mirr n)))) c) : sp_mirrored_rules [.dat (.int n), .dat (rDs rs)] c P := by
  refine ⟨by rw [List.length_map]; exact small_len (by omega), lcL_gen (fun _ => true) (re fun f s => (0 - f - vI s) % n) _ _ _ _ (fun d hd k2 rest acc hr => ?_) ?_⟩
  · obtain ⟨r, hr2, rfl⟩ := List.mem_map.mp hd
    exact ⟨rfl, h0, small_le (by show 4 ≤ 100000; decide), hr⟩
  · rw [List.filter_eq_self.mpr (fun _ _ => rfl), List.nil_append, List.map_map]
    unfold rDs at hP
    rw [List.map_map] at hP
    exact hP
theorem mirr_ok {n : Int} {r : R4} (h0 : 0 < n) (h : r.Ok n) : (mirr n r).Ok n := ⟨Int.emod_nonneg _ (by omega), Int.emod_lt_of_pos _ h0, h.s0, h.s1, h.l0, h.l1, h.m0⟩
theorem turn_ok {n p : Int} {r : R4} (h0 : 0 < n) (h : r.Ok n) : (turn n p r).Ok n := ⟨Int.emod_nonneg _ (by omega), Int.emod_lt_of_pos _ h0, h.s0, h.s1, h.l0, h.l1, h.m0⟩
/-! ### the places of a window, sorted -/
def wl (n f : Int) (s : Nat) : List Int := (List.range s).map fun (k : Nat) => (f + (0 + (k : Int))) % n
theorem window_ok {n f s : Int} (h0 : 0 < n) (h1 : 0 ≤ s) (h2 : s ≤ 60) {c : Nat} {P : Vl → Nat → Prop} (hP : ∀ ms : List Int, ms.Perm (wl n f s.toNat) → ms.Pairwise (· ≤ ·) → P (.dat (.list (dInts ms))) c) : sp__law_window [.dat (.int n), .dat (.int f), .dat (.int s)] c P := by
  refine ⟨by omega, by omega, by rw [rangeD_len]; exact small_len (by omega), lcL_pure (fun _ => true) (fun d => .int ((f + vI d) % n)) _ _ _ _ (fun d hd P hP => hP) (fun d hd hf P hP => ?_) ?_⟩
  · obtain ⟨k, hk, rfl⟩ := rangeD_mem hd
    exact ⟨h0, hP⟩
  · rw [List.filter_eq_self.mpr (fun _ _ => rfl), List.nil_append]
    have e : List.map (fun d => PyData.int ((f + vI d) % n)) (rangeD 0 s.toNat) = (wl n f s.toNat).map PyData.int := by
      unfold rangeD wl
      rw [List.map_map, List.map_map]
      rfl
    rw [e]
    refine ⟨_, intsOf_map _, ?_, hP⟩
    unfold wl
    rw [List.length_map, List.length_range]
    omega
/-- n - 1 - x goes through the window's mirror image backwards -/
theorem mirr_perm {n f : Int} {s : Nat} (h0 : 0 < n) (h1 : (s : Int) ≤ n) (hf0 : 0 ≤ f) (hf1 : f < n) : ((wl n f s).map fun p => n - 1 - p).Perm (wl n ((0 - f - (s : Int)) % n) s) := by
  have e : (wl n ((0 - f - (s : Int)) % n) s) = ((wl n f s).map fun p => n - 1 - p).reverse := by
    apply List.ext_getElem?
    intro i
    unfold wl
    by_cases hi : i < s
    · rw [List.getElem?_reverse (by simpa using hi)]
      simp only [List.length_map, List.length_range, List.getElem?_map]
      rw [List.getElem?_range hi, List.getElem?_range (by omega : s - 1 - i < s)]
      simp only [Option.map_some, Option.some.injEq]
      have x1 : ((0 - f - (s : Int)) % n + (0 + (i : Int))) % n = (0 - f - (s : Int) + (i : Int)) % n := by
        rw [Int.zero_add, Int.emod_add_emod]
      rw [x1, Int.zero_add]
      have hc : ((s - 1 - i : Nat) : Int) = (s : Int) - 1 - i := by omega
      rw [hc]
      have a0 := Int.emod_nonneg (f + ((s : Int) - 1 - i)) (by omega : n ≠ 0)
      have a1 := Int.emod_lt_of_pos (f + ((s : Int) - 1 - i)) h0
      have a2 := Int.emod_add_mul_ediv (f + ((s : Int) - 1 - i)) n
      have y : (0 - f - (s : Int) + i) = (n - 1 - (f + ((s : Int) - 1 - i)) % n) + n * (- ((f + ((s : Int) - 1 - i)) / n) - 1) := by
        rw [Int.mul_sub, Int.mul_neg, Int.mul_one]
        omega
      rw [y, Int.add_mul_emod_self_left]
      exact Int.emod_eq_of_lt (by omega) (by omega)
    · rw [List.getElem?_eq_none (by simpa using hi), List.getElem?_eq_none (by simpa using hi)]
  rw [e]
  exact (List.reverse_perm _).symm
theorem same_ok2 {d e : PyData} {c : Nat} {P : Vl → Nat → Prop} (he : d = e) (h : shows d) (hP : P (.dat (.bool true)) c) : sp__law_same [.dat d, .dat e] c P := by
  subst he
  exact same_ok h hP
theorem sm_tail {n : Int} {r : R4} (hn : n ≤ 1000) (h : r.Ok n) : Sm 1 7694 (.tuple [.int r.s, .int r.l, optD r.m]) := by
  have h2 : r.s.natAbs < 2 ^ 200 := Nat.lt_of_lt_of_le (by have := h.s0; have := h.s1; omega : r.s.natAbs < 1001) (by decide)
  refine sm_tup (k := 0) (N := 1921) (ds := [.int r.s, .int r.l, optD r.m]) 4 (fun d hd => ?_) (by show 3 ≤ 4; decide)
  simp only [List.mem_cons, List.not_mem_nil, or_false] at hd
  rcases hd with rfl | rfl | rfl
  · exact sm_int h2
  · exact sm_int h.l1
  · exact sm_opt h
theorem mright_ok {n : Int} {rs : List R4} (h0 : 0 < n) (h1 : n ≤ 12) (hl : rs.length ≤ 40) (hrs : ∀ r ∈ rs, r.Ok n) {c : Nat} {P : Vl → Nat → Prop} (hP : P (.dat (.bool true)) c) : sp__law_mirrored_right [.dat (.int n), .dat (rDs rs), .dat (rDs (rs.map (mirr n)))] c P := by
  have e1 : ((((rs.map (mirr n)).map rD).length : Nat) : Int) = (((rs.map rD).length : Nat) : Int) := by simp
  refine iteNS (c := ((((rs.map (mirr n)).map rD).length : Nat) : Int) = (((rs.map rD).length : Nat) : Int)) e1 ?_
  refine forL_inv (fun _ env c' => c = c' ∧ ∃ x3 x4 x5 x6 x7, env = [some (.dat (.int n)), some (.dat (rDs rs)), some (.dat (rDs (rs.map (mirr n)))), x3, x4, x5, x6, x7]) (fun j d env c' k hd hI hk => ?_) ⟨rfl, none, none, none, none, none, rfl⟩ (fun env c' hI => ?_)
  · obtain ⟨rfl, x3, x4, x5, x6, x7, rfl⟩ := hI
    obtain ⟨r, hr, rfl⟩ : ∃ r ∈ rs, d = .tuple [rD r, rD (mirr n r)] := by
      rw [List.getElem?_map] at hd
      obtain ⟨z, hz, rfl⟩ := Option.map_eq_some_iff.mp hd
      obtain ⟨hz1, hz2⟩ := List.getElem?_zip_eq_some.mp hz
      rw [List.getElem?_map] at hz1 hz2
      obtain ⟨r, hr, e3⟩ := Option.map_eq_some_iff.mp hz1
      obtain ⟨r2, hr2, e4⟩ := Option.map_eq_some_iff.mp hz2
      rw [List.getElem?_map, hr] at hr2
      have e5 : r2 = mirr n r := (Option.some.inj hr2).symm
      exact ⟨r, List.mem_of_getElem? hr, by rw [← e3, ← e4, e5]⟩
    have ok := hrs r hr
    have okm := mirr_ok h0 ok
    have sh := (sm_tail (n := n) (by omega) ok).shows (by decide) (by decide)
    refine ⟨rfl, sh, sh, ?_⟩
    refine iteNS (c := (PyData.tuple [PyData.int r.s, PyData.int r.l, optD r.m]).shown = (PyData.tuple [PyData.int r.s, PyData.int r.l, optD r.m]).shown) rfl ?_
    refine iteD (c := (0 : Int) ≤ (mirr n r).f) okm.f0 ?_
    refine iteNS (c := (mirr n r).f < n) okm.f1 ?_
    refine ⟨h0, rfl, same_ok2 (e := .int (n - 1 - (r.f + r.s - 1) % n)) ?_ ((sm_int ?_).shows (by decide) (by decide)) ?_⟩
    · have a0 := Int.emod_nonneg (r.f + r.s - 1) (by omega : n ≠ 0)
      have a1 := Int.emod_lt_of_pos (r.f + r.s - 1) h0
      have a2 := Int.emod_add_mul_ediv (r.f + r.s - 1) n
      show PyData.int ((0 - r.f - r.s) % n) = _
      have y : (0 - r.f - r.s) = (n - 1 - (r.f + r.s - 1) % n) + n * (- ((r.f + r.s - 1) / n) - 1) := by
        rw [Int.mul_sub, Int.mul_neg, Int.mul_one]
        omega
      rw [y, Int.add_mul_emod_self_left, Int.emod_eq_of_lt (by omega) (by omega)]
    · have := okm.f0
      have := okm.f1
      exact Nat.lt_of_lt_of_le (by omega : (mirr n r).f.natAbs < 1000) (by decide)
    have s0 := ok.s0
    have s1 := ok.s1
    refine ⟨rfl, window_ok h0 (by omega) (by omega) fun ms hp hsrt => ⟨?_, lcL_pure (fun _ => true) (fun d => .int (n - 1 - vI d)) _ _ _ _ (fun d hd P hP => hP) (fun d hd hf P hP => ?_) ?_⟩⟩
    · rw [dInts_len, hp.length_eq]
      unfold wl
      rw [List.length_map, List.length_range]
      exact small_len (by omega)
    · obtain ⟨m, hm, rfl⟩ := List.mem_map.mp hd
      exact hP
    · have e2 : List.map (fun d => PyData.int (n - 1 - vI d)) (dInts ms) = (ms.map fun p => n - 1 - p).map PyData.int := by
        unfold dInts
        rw [List.map_map, List.map_map]
        rfl
      rw [List.filter_eq_self.mpr (fun _ _ => rfl), List.nil_append, e2]
      refine ⟨_, intsOf_map _, ?_, fun qs hq hqs => ?_⟩
      · rw [List.length_map, hp.length_eq]
        unfold wl
        rw [List.length_map, List.length_range]
        omega
      refine ⟨rfl, window_ok h0 (by show 0 ≤ r.s; omega) (by show r.s ≤ 60; omega) fun us hu hus => ?_⟩
      have e3 : us = qs := by
        refine sorted_one (hu.trans (((hq.trans (hp.map _)).trans (mirr_perm h0 (by omega) ok.f0 ok.f1)).trans ?_).symm) hus hqs
        have e4 : ((r.s.toNat : Nat) : Int) = r.s := by omega
        rw [e4]
        exact List.Perm.refl _
      subst e3
      refine ⟨shaped_lst us, shaped_lst us, ?_⟩
      exact iteNB (b := PyData.eqv (.list (dInts us)) (.list (dInts us))) (lst_eqv us) (hk _ _ ⟨rfl, _, _, _, _, _, rfl⟩)
  · obtain ⟨rfl, x3, x4, x5, x6, x7, rfl⟩ := hI
    exact hP
theorem pick3 {a : Int} (j : Nat) (h0 : 1 ≤ a) (h1 : a ≤ 12) : ∃ n : Int, atI [PyData.int a, PyData.int 12, PyData.int 3] ((0 + (j : Int)) % 3) = some (.int n) ∧ 0 < n ∧ n ≤ 12 := by
  have : (0 + (j : Int)) % 3 = 0 ∨ (0 + (j : Int)) % 3 = 1 ∨ (0 + (j : Int)) % 3 = 2 := by omega
  rcases this with e | e | e
  · exact ⟨a, by rw [e]; rfl, by omega, h1⟩
  · exact ⟨12, by rw [e]; rfl, by decide, by decide⟩
  · exact ⟨3, by rw [e]; rfl, by decide, by decide⟩
theorem mirr_mirr {n : Int} {r : R4} (h : r.Ok n) : mirr n (mirr n r) = r := by
  obtain ⟨f, s, l, m⟩ := r
  have f0 := h.f0
  have f1 := h.f1
  simp only at f0 f1
  unfold mirr
  simp only [R4.mk.injEq, and_self, and_true]
  have e : (0 - (0 - f - s) % n - s) % n = f % n := by
    have a2 := Int.emod_add_mul_ediv (0 - f - s) n
    have y : 0 - (0 - f - s) % n - s = f + n * ((0 - f - s) / n) := by omega
    rw [y, Int.add_mul_emod_self_left]
  rw [e, Int.emod_eq_of_lt f0 f1]
theorem law_ok {ns : List Int} (h63 : ns.length ≤ 63) : sp_law [.dat (.list (ns.map PyData.int))] 0 (fun x _ => x = .dat (.bool true)) := by
  refine ⟨⟨ns, h63, rfl⟩, ?_, by decide, by decide, ?_⟩
  · intro x hx
    simp [startE] at hx
    rcases hx with rfl | rfl <;> trivial
  refine forL_inv (fun j env c => c ≤ 400 * j ∧ ∃ x2 x3 x4 x5 x6 x7 x8 x9 x10 x11, env = [some (.dat (.list (ns.map PyData.int))), some .deck, x2, x3, x4, x5, x6, x7, x8, x9, x10, x11]) (fun j d env c k hd hI hk => ?_) ⟨Nat.le_refl _, none, none, none, none, none, none, none, none, none, none, rfl⟩ (fun env c hI => rfl)
  obtain ⟨hc, x2, x3, x4, x5, x6, x7, x8, x9, x10, x11, rfl⟩ := hI
  obtain ⟨hj, rfl⟩ := rangeD_get hd
  have hj : j < 8 := hj
  refine ⟨rfl, by decide, by decide, by omega, fun r hr0 hr1 => ⟨by show 3 ≤ sizeLine; decide, by show (0 : Int) < 3; decide, ?_⟩⟩
  obtain ⟨n, hat, hn0, hn1⟩ := pick3 (a := 1 + r) j (by omega) (by omega)
  refine ix_ok hat ⟨rfl, rules_ok hn0 (by omega) (by decide) (by decide) (by omega) (fun rs c1 hl hrs hc1 => ?_)⟩
  have hl : rs.length ≤ 16 := hl
  have hsm := sm_rules (n := n) (by omega) (by omega) hrs
  have hsh := hsm.shows (by decide) (by decide)
  refine ⟨hsh, by omega, by omega, ?_⟩
  -- every place
  refine forL_inv (fun _ env c' => c1 = c' ∧ ∃ x6 x7 x8 x9 x10 x11, env = [some (.dat (.list (ns.map PyData.int))), some .deck, some (.dat (.int (0 + (j : Int)))), some (.dat (.int n)), some (.dat (rDs rs)), some (.dat (.str (rDs rs).shown)), x6, x7, x8, x9, x10, x11]) (fun a da env c' k2 hda hI hk2 => ?_) ⟨rfl, x6, x7, x8, x9, x10, x11, rfl⟩ (fun env c' hI => ?_)
  · obtain ⟨rfl, y6, y7, y8, y9, y10, y11, rfl⟩ := hI
    obtain ⟨ha, rfl⟩ := rangeD_get hda
    have ha : a < n.toNat := ha
    refine ⟨small_le (by decide), ?_⟩
    -- the law's own turning
    refine forL_inv (fun i env c' => c1 = c' ∧ ∃ x8 x9 x10 x11, env = [some (.dat (.list (ns.map PyData.int))), some .deck, some (.dat (.int (0 + (j : Int)))), some (.dat (.int n)), some (.dat (rDs rs)), some (.dat (.str (rDs rs).shown)), some (.dat (.int (0 + (a : Int)))), some (.dat (rDs ((rs.take i).map (turn n (0 + (a : Int)))))), x8, x9, x10, x11]) (fun i d env c' k3 hdi hI hk3 => ?_) ⟨rfl, y8, y9, y10, y11, rfl⟩ (fun env c' hI => ?_)
    · obtain ⟨rfl, z8, z9, z10, z11, rfl⟩ := hI
      rw [List.getElem?_map] at hdi
      obtain ⟨q, hq, rfl⟩ := Option.map_eq_some_iff.mp hdi
      have ok := hrs q (List.mem_of_getElem? hq)
      have f0 := ok.f0
      have f1 := ok.f1
      refine ⟨.inl ⟨by omega, by omega⟩, ?_⟩
      have e : PyData.tuple (((rs.take i).map (turn n (0 + (a : Int)))).map rD ++ [PyData.tuple ([PyData.int (q.f - (0 + (a : Int)) + n * (if decide (q.f < 0 + (a : Int)) = true then 1 else 0))] ++ [PyData.int q.s, PyData.int q.l, optD q.m])]) = rDs ((rs.take (i + 1)).map (turn n (0 + (a : Int)))) := by
        have e1 : (q.f - (0 + (a : Int)) + n * (if decide (q.f < 0 + (a : Int)) = true then 1 else 0)) = (q.f - (0 + (a : Int))) % n := by
          by_cases hlt : q.f < 0 + (a : Int)
          · rw [if_pos (decide_eq_true hlt), Int.mul_one, ← Int.add_emod_right, Int.emod_eq_of_lt (by omega) (by omega)]
          · rw [if_neg (fun z => hlt (of_decide_eq_true z)), Int.mul_zero, Int.add_zero, Int.emod_eq_of_lt (by omega) (by omega)]
        rw [e1, List.take_add_one, hq, List.map_append]
        unfold rDs
        rw [List.map_append]
        rfl
      refine ⟨small_le (by show 1 ≤ 100000; decide), small_le (by show 1 + 3 ≤ 100000; decide), small_le (by show 1 ≤ 100000; decide), small_le ?_, ?_⟩
      · show (((rs.take i).map (turn n (0 + (a : Int)))).map rD).length + 1 ≤ 100000
        rw [List.length_map, List.length_map, List.length_take]
        omega
      · have fin := hk3 _ _ ⟨rfl, some (.dat (rD q)), some (.dat (.int (q.f - (0 + (a : Int)) + n * (if decide (q.f < 0 + (a : Int)) = true then 1 else 0)))), z10, z11, rfl⟩
        rw [← e] at fin
        exact fin
    · obtain ⟨rfl, z8, z9, z10, z11, rfl⟩ := hI
      rw [List.length_map, List.take_length]
      have okT : ∀ x ∈ rs.map (turn n (0 + (a : Int))), x.Ok n := fun x hx => by
        obtain ⟨y, hy, rfl⟩ := List.mem_map.mp hx
        exact turn_ok hn0 (hrs y hy)
      have smT := sm_rules (n := n) (by omega) (by rw [List.length_map]; omega) okT
      refine ⟨by decide, by decide, small_len (by decide), lcL_pure (fun _ => true) (fun _ => rDs (rs.map (turn n (0 + (a : Int))))) _ _ _ _ (fun d hd P hP => hP) (fun d hd hf P hP => ⟨rfl, turned_ok hn0 (by omega) hP⟩) ?_⟩
      refine ⟨small_le (by show 2 ≤ 100000; decide), rfl, same_ok ((sm_lst (k := 2) (N := 307842) (ds := [rDs (rs.map (turn n (0 + (a : Int)))), rDs (rs.map (turn n (0 + (a : Int))))]) 2 (fun d hd => ?_) (by show 2 ≤ 2; decide)).shows (by decide) (by decide)) (hk2 _ _ ⟨rfl, _, _, _, _, _, _, rfl⟩)⟩
      simp only [List.mem_cons, List.not_mem_nil, or_false, or_self] at hd
      rw [hd]
      exact smT
  · obtain ⟨rfl, y6, y7, y8, y9, y10, y11, rfl⟩ := hI
    have okM : ∀ x ∈ rs.map (mirr n), x.Ok n := fun x hx => by
      obtain ⟨y, hy, rfl⟩ := List.mem_map.mp hx
      exact mirr_ok hn0 (hrs y hy)
    have shM := (sm_rules (n := n) (by omega) (by rw [List.length_map]; omega) okM).shows (by decide) (by decide)
    have e : (rs.map (mirr n)).map (mirr n) = rs := by
      rw [List.map_map]
      refine (List.map_congr_left fun x hx => ?_).trans (List.map_id _)
      exact mirr_mirr (hrs x hx)
    refine ⟨rfl, mirrored_ok hn0 (by omega) ⟨rfl, mright_ok hn0 hn1 (by omega) hrs ?_⟩⟩
    refine ⟨rfl, mirrored_ok hn0 (by omega) ⟨shM, shM, ?_⟩⟩
    refine iteNS (c := (rDs (rs.map (mirr n))).shown = (rDs (rs.map (mirr n))).shown) rfl ?_
    refine ⟨rfl, mirrored_ok (rs := rs.map (mirr n)) hn0 (by rw [List.length_map]; omega) ?_⟩
    rw [e]
    refine ⟨hsh, ?_⟩
    refine iteNS (c := (rDs rs).shown = (rDs rs).shown) rfl ?_
    refine ⟨hsh, ?_⟩
    exact iteNS (c := (rDs rs).shown = (rDs rs).shown) rfl (hk _ _ ⟨by omega, _, _, _, _, _, _, _, _, _, _, rfl⟩)
theorem want (K : PySem.W.Frag) (H : Hp) (a : Addr) (ns : List Int) (hl : ns.length ≤ 63) (hS : SqL K H a (ns.map V.int)) : spTop K sp_law [.ref a] H (fun v _ => v = .bl true) E0 :=
  ⟨a, ns, fun x _ => x = .dat (.bool true), rfl, hS, hl, law_ok hl, fun x c' g' H' v hx ok _ => by
    subst hx
    exact dp_bl ok⟩
end RW
namespace RW
open PySem PySem.Spec PyProof.Rows L2 DL
theorem all_mk {l : PySem.W.OpenLaw} {w : World} {K : PySem.W.Frag} {h : Heap} {mg : Str → Option Value} {fa f0 f1 f2 f3 f4 f5 f6 f7 f8 f9 : Addr} (X : K.In h) (G : h.Ns mainGlobals mg) (hfa : mg "law" = some (.ref fa))
    {od0 an0 : Option Addr} {sl0 : Array (Option Value)} {oc0 kV0 dc0 pm0 cd0 ct0 : Value}
    (a0 : PySem.W.nsIn K mainGlobals "turned_rules" = some (some (.ref f0))) (l0 : K.lookup f0 = some ⟨oc0, od0, .func (PySem.W.fnOf "turned_rules" "turned_rules" (defArgs s_turned_rules) (defBody s_turned_rules) (defScope s_turned_rules) .none kV0 dc0 pm0 an0 cd0 ct0), sl0⟩) (c0 : PySem.W.codeIn K cd0 "turned_rules" = true) (k0 : PySem.W.keepIn K (.ref f0) = true)
    {od1 an1 : Option Addr} {sl1 : Array (Option Value)} {oc1 kV1 dc1 pm1 cd1 ct1 : Value}
    (a1 : PySem.W.nsIn K mainGlobals "mirrored_rules" = some (some (.ref f1))) (l1 : K.lookup f1 = some ⟨oc1, od1, .func (PySem.W.fnOf "mirrored_rules" "mirrored_rules" (defArgs s_mirrored_rules) (defBody s_mirrored_rules) (defScope s_mirrored_rules) .none kV1 dc1 pm1 an1 cd1 ct1), sl1⟩) (c1 : PySem.W.codeIn K cd1 "mirrored_rules" = true) (k1 : PySem.W.keepIn K (.ref f1) = true)
    {od2 an2 : Option Addr} {sl2 : Array (Option Value)} {oc2 kV2 dc2 pm2 cd2 ct2 : Value}
    (a2 : PySem.W.nsIn K mainGlobals "_law_deck" = some (some (.ref f2))) (l2 : K.lookup f2 = some ⟨oc2, od2, .func (PySem.W.fnOf "_law_deck" "_law_deck" (defArgs s__law_deck) (defBody s__law_deck) (defScope s__law_deck) .none kV2 dc2 pm2 an2 cd2 ct2), sl2⟩) (c2 : PySem.W.codeIn K cd2 "_law_deck" = true) (k2 : PySem.W.keepIn K (.ref f2) = true)
    {od3 an3 : Option Addr} {sl3 : Array (Option Value)} {oc3 kV3 dc3 pm3 cd3 ct3 : Value}
    (a3 : PySem.W.nsIn K mainGlobals "_law_draw" = some (some (.ref f3))) (l3 : K.lookup f3 = some ⟨oc3, od3, .func (PySem.W.fnOf "_law_draw" "_law_draw" (defArgs s__law_draw) (defBody s__law_draw) (defScope s__law_draw) .none kV3 dc3 pm3 an3 cd3 ct3), sl3⟩) (c3 : PySem.W.codeIn K cd3 "_law_draw" = true) (k3 : PySem.W.keepIn K (.ref f3) = true)
    {od4 an4 : Option Addr} {sl4 : Array (Option Value)} {oc4 kV4 dc4 pm4 cd4 ct4 : Value}
    (a4 : PySem.W.nsIn K mainGlobals "_law_same" = some (some (.ref f4))) (l4 : K.lookup f4 = some ⟨oc4, od4, .func (PySem.W.fnOf "_law_same" "_law_same" (defArgs s__law_same) (defBody s__law_same) (defScope s__law_same) .none kV4 dc4 pm4 an4 cd4 ct4), sl4⟩) (c4 : PySem.W.codeIn K cd4 "_law_same" = true) (k4 : PySem.W.keepIn K (.ref f4) = true)
    {od5 an5 : Option Addr} {sl5 : Array (Option Value)} {oc5 kV5 dc5 pm5 cd5 ct5 : Value}
    (a5 : PySem.W.nsIn K mainGlobals "_law_rule" = some (some (.ref f5))) (l5 : K.lookup f5 = some ⟨oc5, od5, .func (PySem.W.fnOf "_law_rule" "_law_rule" (defArgs s__law_rule) (defBody s__law_rule) (defScope s__law_rule) .none kV5 dc5 pm5 an5 cd5 ct5), sl5⟩) (c5 : PySem.W.codeIn K cd5 "_law_rule" = true) (k5 : PySem.W.keepIn K (.ref f5) = true)
    {od6 an6 : Option Addr} {sl6 : Array (Option Value)} {oc6 kV6 dc6 pm6 cd6 ct6 : Value}
    (a6 : PySem.W.nsIn K mainGlobals "_law_rules" = some (some (.ref f6))) (l6 : K.lookup f6 = some ⟨oc6, od6, .func (PySem.W.fnOf "_law_rules" "_law_rules" (defArgs s__law_rules) (defBody s__law_rules) (defScope s__law_rules) .none kV6 dc6 pm6 an6 cd6 ct6), sl6⟩) (c6 : PySem.W.codeIn K cd6 "_law_rules" = true) (k6 : PySem.W.keepIn K (.ref f6) = true)
    {od7 an7 : Option Addr} {sl7 : Array (Option Value)} {oc7 kV7 dc7 pm7 cd7 ct7 : Value}
    (a7 : PySem.W.nsIn K mainGlobals "_law_window" = some (some (.ref f7))) (l7 : K.lookup f7 = some ⟨oc7, od7, .func (PySem.W.fnOf "_law_window" "_law_window" (defArgs s__law_window) (defBody s__law_window) (defScope s__law_window) .none kV7 dc7 pm7 an7 cd7 ct7), sl7⟩) (c7 : PySem.W.codeIn K cd7 "_law_window" = true) (k7 : PySem.W.keepIn K (.ref f7) = true)
    {od8 an8 : Option Addr} {sl8 : Array (Option Value)} {oc8 kV8 dc8 pm8 cd8 ct8 : Value}
    (a8 : PySem.W.nsIn K mainGlobals "_law_mirrored_right" = some (some (.ref f8))) (l8 : K.lookup f8 = some ⟨oc8, od8, .func (PySem.W.fnOf "_law_mirrored_right" "_law_mirrored_right" (defArgs s__law_mirrored_right) (defBody s__law_mirrored_right) (defScope s__law_mirrored_right) .none kV8 dc8 pm8 an8 cd8 ct8), sl8⟩) (c8 : PySem.W.codeIn K cd8 "_law_mirrored_right" = true) (k8 : PySem.W.keepIn K (.ref f8) = true)
    {od9 an9 : Option Addr} {sl9 : Array (Option Value)} {oc9 kV9 dc9 pm9 cd9 ct9 : Value}
    (a9 : PySem.W.nsIn K mainGlobals "law" = some (some (.ref f9))) (l9 : K.lookup f9 = some ⟨oc9, od9, .func (PySem.W.fnOf "law" "law" (defArgs s_law) (defBody s_law) (defScope s_law) .none kV9 dc9 pm9 an9 cd9 ct9), sl9⟩) (c9 : PySem.W.codeIn K cd9 "law" = true) (k9 : PySem.W.keepIn K (.ref f9) = true)
    (z_abs : PySem.W.nsIn K mainGlobals "abs" = some none)
    (z_int : PySem.W.nsIn K mainGlobals "int" = some none)
    (z_isinstance : PySem.W.nsIn K mainGlobals "isinstance" = some none)
    (z_len : PySem.W.nsIn K mainGlobals "len" = some none)
    (z_max : PySem.W.nsIn K mainGlobals "max" = some none)
    (z_min : PySem.W.nsIn K mainGlobals "min" = some none)
    (z_range : PySem.W.nsIn K mainGlobals "range" = some none)
    (z_repr : PySem.W.nsIn K mainGlobals "repr" = some none)
    (z_sorted : PySem.W.nsIn K mainGlobals "sorted" = some none)
    (z_tuple : PySem.W.nsIn K mainGlobals "tuple" = some none)
    (z_zip : PySem.W.nsIn K mainGlobals "zip" = some none)
    : ∃ fd : FuncData, (∀ (s : Shared) (v : Value), BindsTo s fd ⟨[v], []⟩ [("_law_script", v)]) ∧ ∀ base : Heap, K.In base → base.Ns mainGlobals mg → FnG l.prog w K mg base 4 fa fd ["_law_script"] (spTop K sp_law) := by
  have e := hfa.symm.trans (PySem.W.mg_of X G a9)
  cases e
  have F0 := fun_mk (st := s_turned_rules) l0 c0 k0
  have b0 := F0.binds (ps := ["n", "rules", "place"]) fun _ _ _ _ _ _ us hl => match us, hl with | [_, _, _], _ => rfl
  have m0 := PySem.W.mg_of X G a0
  have F1 := fun_mk (st := s_mirrored_rules) l1 c1 k1
  have b1 := F1.binds (ps := ["n", "rules"]) fun _ _ _ _ _ _ us hl => match us, hl with | [_, _], _ => rfl
  have m1 := PySem.W.mg_of X G a1
  have F2 := fun_mk (st := s__law_deck) l2 c2 k2
  have b2 := F2.binds (ps := ["_law_script"]) fun _ _ _ _ _ _ us hl => match us, hl with | [_], _ => rfl
  have m2 := PySem.W.mg_of X G a2
  have F3 := fun_mk (st := s__law_draw) l3 c3 k3
  have b3 := F3.binds (ps := ["_law_deck_here", "_law_limit"]) fun _ _ _ _ _ _ us hl => match us, hl with | [_, _], _ => rfl
  have m3 := PySem.W.mg_of X G a3
  have F4 := fun_mk (st := s__law_same) l4 c4 k4
  have b4 := F4.binds (ps := ["_law_value", "_law_due"]) fun _ _ _ _ _ _ us hl => match us, hl with | [_, _], _ => rfl
  have m4 := PySem.W.mg_of X G a4
  have F5 := fun_mk (st := s__law_rule) l5 c5 k5
  have b5 := F5.binds (ps := ["_law_deck_here", "_law_n"]) fun _ _ _ _ _ _ us hl => match us, hl with | [_, _], _ => rfl
  have m5 := PySem.W.mg_of X G a5
  have F6 := fun_mk (st := s__law_rules) l6 c6 k6
  have b6 := F6.binds (ps := ["_law_deck_here", "_law_n", "_law_many"]) fun _ _ _ _ _ _ us hl => match us, hl with | [_, _, _], _ => rfl
  have m6 := PySem.W.mg_of X G a6
  have F7 := fun_mk (st := s__law_window) l7 c7 k7
  have b7 := F7.binds (ps := ["_law_n", "_law_first", "_law_size"]) fun _ _ _ _ _ _ us hl => match us, hl with | [_, _, _], _ => rfl
  have m7 := PySem.W.mg_of X G a7
  have F8 := fun_mk (st := s__law_mirrored_right) l8 c8 k8
  have b8 := F8.binds (ps := ["_law_n", "_law_rules_here", "_law_found"]) fun _ _ _ _ _ _ us hl => match us, hl with | [_, _, _], _ => rfl
  have m8 := PySem.W.mg_of X G a8
  have F9 := fun_mk (st := s_law) l9 c9 k9
  have m9 := PySem.W.mg_of X G a9
  have m_abs := PySem.W.mg_none_of X G z_abs
  have m_int := PySem.W.mg_none_of X G z_int
  have m_isinstance := PySem.W.mg_none_of X G z_isinstance
  have m_len := PySem.W.mg_none_of X G z_len
  have m_max := PySem.W.mg_none_of X G z_max
  have m_min := PySem.W.mg_none_of X G z_min
  have m_range := PySem.W.mg_none_of X G z_range
  have m_repr := PySem.W.mg_none_of X G z_repr
  have m_sorted := PySem.W.mg_none_of X G z_sorted
  have m_tuple := PySem.W.mg_none_of X G z_tuple
  have m_zip := PySem.W.mg_none_of X G z_zip
  refine ⟨PySem.W.fnOf "law" "law" (defArgs s_law) (defBody s_law) (defScope s_law) .none kV9 dc9 pm9 an9 cd9 ct9, fun s v => .of_eq rfl, fun base _ _ => ?_⟩
  have d__law_draw := ok__law_draw (P := l.prog) (w := w) (base := base) F3 m3 b3 m_len
  have fnDeck := ok__law_deck (P := l.prog) (w := w) (mg := mg) (base := base) F2 m_abs
  have d_turned_rules := ok_turned_rules (P := l.prog) (w := w) (base := base) F0 m0 b0 m_tuple
  have d_mirrored_rules := ok_mirrored_rules (P := l.prog) (w := w) (base := base) F1 m1 b1 m_tuple
  have d__law_same := ok__law_same (P := l.prog) (w := w) (base := base) F4 m4 b4 m_repr
  have d__law_rule := ok__law_rule (P := l.prog) (w := w) (base := base) F5 m5 b5 m_max m_min d__law_draw
  have d__law_rules := ok__law_rules (P := l.prog) (w := w) (base := base) F6 m6 b6 m_range m_tuple d__law_draw d__law_rule
  have d__law_window := ok__law_window (P := l.prog) (w := w) (base := base) F7 m7 b7 m_range m_sorted
  have d__law_mirrored_right := ok__law_mirrored_right (P := l.prog) (w := w) (base := base) F8 m8 b8 m_isinstance m_len m_repr m_sorted m_tuple m_zip d__law_same d__law_window
  exact ok_law F9 fnDeck m2 F2.kp b2 m_int m_range m_repr d__law_draw d__law_mirrored_right d__law_rules d__law_same d_mirrored_rules d_turned_rules
end RW
open PySem PySem.W PyProof.Rows
set_option maxHeartbeats 0 in
theorem PySem.Challenge.cw_ringwindows_k04_rules_turned_and_mirrore_holds : PySem.Challenge.rw_ringwindows_k04_rules_turned_and_mirrore.Holds := by
  w_on; o_law; k_head; (case hw => w_witness2)
  k_fill
  refine DL.walk_end (l := PySem.Challenge.rw_ringwindows_k04_rules_turned_and_mirrore) (n := 63) (k := 4) (x := "_law_script") (sp := fun K => DL.spTop K RW.sp_law) rfl (by decide) rfl ⟨rfl, by decide, by decide⟩ (fun w h Y => PySem.W.kIn_of Y) ?F (fun K H a ns hl hS => RW.want K H a ns hl hS)
  case F =>
    intro w mg fa h KX G hmg
    refine' RW.all_mk KX G hmg ?a0 ?l0 ?c0 ?k0 ?a1 ?l1 ?c1 ?k1 ?a2 ?l2 ?c2 ?k2 ?a3 ?l3 ?c3 ?k3 ?a4 ?l4 ?c4 ?k4 ?a5 ?l5 ?c5 ?k5 ?a6 ?l6 ?c6 ?k6 ?a7 ?l7 ?c7 ?k7 ?a8 ?l8 ?c8 ?k8 ?a9 ?l9 ?c9 ?k9 ?z_abs ?z_int ?z_isinstance ?z_len ?z_max ?z_min ?z_range ?z_repr ?z_sorted ?z_tuple ?z_zip
    (case a0 => k_is); (case l0 => k_is); (case c0 => k_is); (case k0 => k_is); (case a1 => k_is); (case l1 => k_is); (case c1 => k_is); (case k1 => k_is); (case a2 => k_is); (case l2 => k_is); (case c2 => k_is); (case k2 => k_is); (case a3 => k_is); (case l3 => k_is); (case c3 => k_is); (case k3 => k_is); (case a4 => k_is); (case l4 => k_is); (case c4 => k_is); (case k4 => k_is); (case a5 => k_is); (case l5 => k_is); (case c5 => k_is); (case k5 => k_is); (case a6 => k_is); (case l6 => k_is); (case c6 => k_is); (case k6 => k_is); (case a7 => k_is); (case l7 => k_is); (case c7 => k_is); (case k7 => k_is); (case a8 => k_is); (case l8 => k_is); (case c8 => k_is); (case k8 => k_is); (case a9 => k_is); (case l9 => k_is); (case c9 => k_is); (case k9 => k_is); (case z_abs => k_is); (case z_int => k_is); (case z_isinstance => k_is); (case z_len => k_is); (case z_max => k_is); (case z_min => k_is); (case z_range => k_is); (case z_repr => k_is); (case z_sorted => k_is); (case z_tuple => k_is); (case z_zip => k_is)
