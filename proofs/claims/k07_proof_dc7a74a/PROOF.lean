import PyProof.Rows.All
import Wide.All
import OpenK.AllK
import Wide.FinOn
import HandS.ForMost
import HandS.Star
import HandS.Exc
import HandS.ExcInit
import HandS.ExcField
import HandS.ExcOwn
import HandS.WordsExc
import KE.KExcIs
import HandS.Conv
import HandS.Walk
import HandS.FStrTup
import HandS.IsInst
import HandS.TupAny
import HandS.Zip
import HandS.Flow
import HandS.TupMul
import HandS.Deep
import PyProof.Rows.SeqMore
import HandS.Dict
import HandS.Wide
import HandS.Style
import KE.KTupSum
import KE.KRevSl
import PyProof.NeKinds
import KE.GoesEnum
import KE.GoesMore
import KE.DataMinKey
import HandS.SortKw
import HandS.Text
import HandS.FStr
import HandS.NoneIn
import HandS.SetFor
import HandS.Strs
import HandS.TupLe
import HandS.StrMore
import HandS.StrSplit
import KE.KDictZip
import KE.KDictItemsList
import HandS.ListItems
import PyProof.StrOps2
import KE.GoesEnumKw
import HandS.TryMany
import KE.KExcInit
import PyProof.Rows.CallKwBuiltin
import PyProof.Rows.StrSplitCount
import KE.GoesRaise
import PySem.Challenge.RW_ringwindows_k07_rules_scaled
set_option Elab.async false
set_option linter.all false
set_option maxRecDepth 100000
set_option maxHeartbeats 4000000
namespace DL
open PySem PySem.Spec PyProof.Rows L2
/-- the deck's own list: [cells, count] -/
def DShape (F : Hp) (q : Addr) (c : Nat) (ys : List V) (ns : List Int) : Prop := ys = [.ref q, .int (c : Int)]
theorem DShape.mono {F F' : Hp} {q : Addr} {c : Nat} {ys : List V} {ns : List Int} (e : Same F F') (h : DShape F q c ys ns) : DShape F' q c ys ns := h
end DL
/-! The data layer: what a body does, told over data (PyData) alone. -/
namespace DL
open PySem PySem.Spec PyProof.Rows L2

/-- what a slot holds: data, the law's deck, a list that this frame alone knows -/
inductive Vl where
  | dat (d : PyData)
  | deck
  | exc (a : Addr)
  | own (l : List PyData)

abbrev Ev := List (Option Vl)
structure Gh where
  F : Hp
  dk : Option (Addr × Addr)
def isDk (g : Gh) (a : Addr) : Prop := ∃ p q, g.dk = some (p, q) ∧ (a = p ∨ a = q)
structure Mo (g g' : Gh) : Prop where
  f : Same g.F g'.F
  d : g'.dk = g.dk
theorem Mo.refl (g : Gh) : Mo g g := ⟨Same.refl _, rfl⟩
theorem Mo.trans {a b c : Gh} (x : Mo a b) (y : Mo b c) : Mo a c := ⟨x.f.trans y.f, y.d.trans x.d⟩
/-- a step of an expression: new data, the deck drawn from, all else as it was -/
structure Mv (g : Gh) (H : Hp) (g' : Gh) (H' : Hp) : Prop extends Mo g g' where
  fr : ∀ a o, H a = some o → ¬ isDk g a → H' a = some o
  lv : ∀ a o, H a = some o → ∃ o', H' a = some o'
  nf : ∀ a o, g'.F a = some o → g.F a = some o ∨ H a = none
theorem Mv.refl (g : Gh) (H : Hp) : Mv g H g H := ⟨Mo.refl g, fun _ _ e _ => e, fun _ o e => ⟨o, e⟩, fun _ _ e => .inl e⟩
theorem Mv.trans {a b c : Gh} {H H1 H2 : Hp} (x : Mv a H b H1) (y : Mv b H1 c H2) : Mv a H c H2 := by
  refine ⟨x.toMo.trans y.toMo, fun p o e n => y.fr p o (x.fr p o e n) fun z => n ?_, fun p o e => ?_, fun p o e => ?_⟩
  · obtain ⟨u, v, h, k⟩ := z
    exact ⟨u, v, x.d.symm.trans h, k⟩
  · obtain ⟨o1, e1⟩ := x.lv p o e
    exact y.lv p o1 e1
  · rcases y.nf p o e with h | h
    · exact x.nf p o h
    · right
      cases q : H p with
      | none => rfl
      | some o2 =>
        obtain ⟨o1, e1⟩ := x.lv p o2 q
        rw [h] at e1
        cases e1
theorem Mo.isDk {g g' : Gh} (m : Mo g g') {a : Addr} (h : isDk g' a) : isDk g a := by
  obtain ⟨p, q, e, z⟩ := h
  exact ⟨p, q, by rw [← m.d]; exact e, z⟩

theorem seqT {K : PySem.W.Frag} {H H' : Hp} {a : Addr} {xs : List V} (e : Same H H') (h : SqT K H a xs) : SqT K H' a xs := by
  rcases h with (h | ⟨o, h⟩) | h
  · exact .inl (.inl (e _ _ h))
  · exact .inl (.inr ⟨o, e _ _ h⟩)
  · exact .inr h
/-- data: as the hand layer's own, and dicts with int and text keys -/
def keyD : Key → PyData
  | .inl i => .int i
  | .inr x => .str x
mutual
inductive Dp (K : PySem.W.Frag) (H : Hp) : V → PyData → Prop
  | non : Dp K H .non .none
  | bl (b : Bool) : Dp K H (.bl b) (.bool b)
  | int (i : Int) : Dp K H (.int i) (.int i)
  | str (x : Str) : Dp K H (.str x) (.str x)
  | lst {a : Addr} {xs : List V} {ds : List PyData} : SqL K H a xs → DpAll K H xs ds → Dp K H (.ref a) (.list ds)
  | tup {a : Addr} {xs : List V} {ds : List PyData} : SqT K H a xs → DpAll K H xs ds → Dp K H (.ref a) (.tuple ds)
  | dct {a : Addr} {kvs : List (Key × V)} {ds : List PyData} : H a = some (.dK kvs) → DpAll K H (kvs.map (·.2)) ds → Dp K H (.ref a) (.dict ((kvs.map fun kv => keyD kv.1).zip ds))
inductive DpAll (K : PySem.W.Frag) (H : Hp) : List V → List PyData → Prop
  | nil : DpAll K H [] []
  | cons {v : V} {vs : List V} {d : PyData} {ds : List PyData} : Dp K H v d → DpAll K H vs ds → DpAll K H (v :: vs) (d :: ds)
end
mutual
theorem dp_mono {K : PySem.W.Frag} {H H' : Hp} (e : Same H H') : ∀ {v : V} {d : PyData}, Dp K H v d → Dp K H' v d
  | _, _, .non => .non
  | _, _, .bl b => .bl b
  | _, _, .int i => .int i
  | _, _, .str x => .str x
  | _, _, .lst s a => .lst (e.seq s) (dpAll_mono e a)
  | _, _, .tup s a => .tup (seqT e s) (dpAll_mono e a)
  | _, _, .dct s a => .dct (e _ _ s) (dpAll_mono e a)
theorem dpAll_mono {K : PySem.W.Frag} {H H' : Hp} (e : Same H H') : ∀ {vs : List V} {ds : List PyData}, DpAll K H vs ds → DpAll K H' vs ds
  | _, _, .nil => .nil
  | _, _, .cons h t => .cons (dp_mono e h) (dpAll_mono e t)
end
mutual
/-- without dicts it is the hand layer's -/
theorem dp_l2 {K : PySem.W.Frag} {H : Hp} : ∀ {v : V} {d : PyData}, Dp K H v d → d.hasDict = false → L2.Dp K H v d
  | _, _, .non, _ => .non
  | _, _, .bl b, _ => .bl b
  | _, _, .int i, _ => .int i
  | _, _, .str x, _ => .str x
  | _, _, .lst s a, h => .lst s (dpAll_l2 a (by simpa [PyData.hasDict] using h))
  | _, _, .tup s a, h => .tup s (dpAll_l2 a (by simpa [PyData.hasDict] using h))
  | _, _, .dct s a, h => by simp [PyData.hasDict] at h
theorem dpAll_l2 {K : PySem.W.Frag} {H : Hp} : ∀ {vs : List V} {ds : List PyData}, DpAll K H vs ds → PyData.hasDictAll ds = false → L2.DpAll K H vs ds
  | _, _, .nil, _ => .nil
  | _, _, .cons h t, hd => by
    simp only [PyData.hasDictAll, Bool.or_eq_false_iff] at hd
    exact .cons (dp_l2 h hd.1) (dpAll_l2 t hd.2)
end
theorem DpAll.len {K : PySem.W.Frag} {H : Hp} : ∀ {vs : List V} {ds : List PyData}, DpAll K H vs ds → vs.length = ds.length
  | _, _, .nil => rfl
  | _, _, .cons _ t => by simp [DpAll.len t]
theorem DpAll.get {K : PySem.W.Frag} {H : Hp} : ∀ {vs : List V} {ds : List PyData} {i : Nat} {d : PyData}, DpAll K H vs ds → ds[i]? = some d → ∃ v, vs[i]? = some v ∧ Dp K H v d
  | _, _, _, _, .nil, h => by simp at h
  | _, _, 0, _, .cons h _, e => by
    simp at e
    subst e
    exact ⟨_, rfl, h⟩
  | _, _, i + 1, d, .cons _ t, e => by
    obtain ⟨v, h1, h2⟩ := DpAll.get (i := i) (d := d) t (by simpa using e)
    exact ⟨v, by simpa using h1, h2⟩
theorem DpAll.getV {K : PySem.W.Frag} {H : Hp} : ∀ {vs : List V} {ds : List PyData} {i : Nat} {v : V}, DpAll K H vs ds → vs[i]? = some v → ∃ d, ds[i]? = some d ∧ Dp K H v d
  | _, _, _, _, .nil, h => by simp at h
  | _, _, 0, _, .cons h _, e => by
    simp at e
    subst e
    exact ⟨_, rfl, h⟩
  | _, _, i + 1, v, .cons _ t, e => by
    obtain ⟨d, h1, h2⟩ := DpAll.getV (i := i) (v := v) t (by simpa using e)
    exact ⟨d, by simpa using h1, h2⟩
theorem DpAll.app {K : PySem.W.Frag} {H : Hp} : ∀ {vs ws : List V} {ds es : List PyData}, DpAll K H vs ds → DpAll K H ws es → DpAll K H (vs ++ ws) (ds ++ es)
  | _, _, _, _, .nil, t => t
  | _, _, _, _, .cons h r, t => .cons h (DpAll.app r t)
theorem DpAll.take {K : PySem.W.Frag} {H : Hp} : ∀ {vs : List V} {ds : List PyData} (n : Nat), DpAll K H vs ds → DpAll K H (vs.take n) (ds.take n)
  | _, _, 0, _ => .nil
  | _, _, _ + 1, .nil => .nil
  | _, _, n + 1, .cons h t => .cons h (DpAll.take n t)
theorem DpAll.drop {K : PySem.W.Frag} {H : Hp} : ∀ {vs : List V} {ds : List PyData} (n : Nat), DpAll K H vs ds → DpAll K H (vs.drop n) (ds.drop n)
  | _, _, 0, r => r
  | _, _, _ + 1, .nil => .nil
  | _, _, n + 1, .cons _ t => DpAll.drop n t
theorem DpAll.setV {K : PySem.W.Frag} {H : Hp} {v : V} {d : PyData} (h : Dp K H v d) : ∀ {vs : List V} {ds : List PyData} (i : Nat), DpAll K H vs ds → DpAll K H (vs.set i v) (ds.set i d)
  | _, _, _, .nil => .nil
  | _, _, 0, .cons _ t => .cons h t
  | _, _, i + 1, .cons q t => .cons q (DpAll.setV h i t)

/-- the deck: [[cells], count] -/
def DeckOk (g : Gh) (H : Hp) (c : Nat) : Prop := ∀ p q, g.dk = some (p, q) → p ≠ q ∧ g.F p = none ∧ g.F q = none ∧
  ∃ ns : List Int, (∀ n ∈ ns, 0 ≤ n) ∧ ns.length ≤ 63 ∧ H q = some (.lst (ns.map V.int)) ∧ ∃ ys, H p = some (.lst ys) ∧ DShape g.F q c ys ns
def VOk (K : PySem.W.Frag) (g : Gh) (H : Hp) (v : V) : Vl → Prop
  | .dat d => Dp K g.F v d
  | .deck => ∃ p q, g.dk = some (p, q) ∧ v = .ref p
  | .exc a => v = .ref a
  | .own l => ∃ a xs, v = .ref a ∧ g.F a = none ∧ ¬ isDk g a ∧ H a = some (.lst xs) ∧ DpAll K g.F xs l
/-- the entry of a frame; top: the law's own frame, where the deck is made -/
structure En where
  g : Gh
  H : Hp
  top : Bool
structure Rel (K : PySem.W.Frag) (E : En) (g : Gh) (env : Ev) (c : Nat) (σ : L2.St) (H : Hp) : Prop where
  mo : Same E.g.F g.F
  md : E.top = false → g.dk = E.g.dk
  mt : E.top = true → E.g.dk = none
  dn : ∀ a, isDk g a → isDk E.g a ∨ E.H a = none
  nf : ∀ a o, g.F a = some o → E.g.F a = some o ∨ E.H a = none
  fr : ∀ a o, E.H a = some o → ¬ isDk E.g a → H a = some o
  nw : ∀ (i : Nat) (l : List PyData), env[i]? = some (some (Vl.own l)) → ∀ a : Addr, σ[i]? = some (some (V.ref a)) → E.H a = none
  ex : Same g.F H
  sl : ∀ (i : Nat) (x : Vl), env[i]? = some (some x) → ∃ v, σ[i]? = some (some v) ∧ VOk K g H v x
  ap : ∀ (i j : Nat) (li lj : List PyData) (a : Addr), i ≠ j → env[i]? = some (some (Vl.own li)) → env[j]? = some (some (Vl.own lj)) → σ[i]? = some (some (V.ref a)) → σ[j]? ≠ some (some (V.ref a))
  dk : DeckOk g H c
  len : env.length = σ.length

section
variable {K : PySem.W.Frag} {E : En} {g g' : Gh} {env : Ev} {c : Nat} {σ : L2.St} {H H' : Hp}
theorem Rel.deckLive (r : Rel K E g env c σ H) {a : Addr} (h : isDk g a) : ∃ o, H a = some o := by
  obtain ⟨p, q, e, z⟩ := h
  obtain ⟨_, _, _, ns, _, _, hq, _, hp, _⟩ := r.dk p q e
  rcases z with rfl | rfl
  · exact ⟨_, hp⟩
  · exact ⟨_, hq⟩
theorem Rel.old (r : Rel K E g env c σ H) {a : Addr} {o : HO} (h : E.H a = some o) : ∃ o', H a = some o' := by
  by_cases hd : isDk E.g a
  · cases ht : E.top with
    | true =>
      obtain ⟨p, q, e, _⟩ := hd
      rw [r.mt ht] at e
      cases e
    | false =>
      obtain ⟨p, q, e, z⟩ := hd
      exact r.deckLive ⟨p, q, by rw [r.md ht]; exact e, z⟩
  · exact ⟨o, r.fr a o h hd⟩
theorem Rel.oldN (r : Rel K E g env c σ H) {a : Addr} (h : H a = none) : E.H a = none := by
  cases q : E.H a with
  | none => rfl
  | some o =>
    obtain ⟨o', e⟩ := r.old q
    rw [h] at e
    cases e
/-- a new object, known to the data from now on -/
theorem Rel.new (r : Rel K E g env c σ H) {p : Addr} (o : HO) (hp : H p = none) : Rel K E ⟨upd g.F p o, g.dk⟩ env c σ (upd H p o) ∧ Mv g H ⟨upd g.F p o, g.dk⟩ (upd H p o) := by
  have hF : g.F p = none := r.ex.free hp
  have sF : Same g.F (upd g.F p o) := fun b x e => by
    rw [upd_ne (ne_of_none e hF)]
    exact e
  have nd : ¬ isDk g p := fun h => by
    obtain ⟨o', e⟩ := r.deckLive h
    rw [hp] at e
    cases e
  refine ⟨⟨r.mo.trans sF, r.md, r.mt, r.dn, fun a x e => ?_, fun a x e n => ?_, r.nw, fun b x e => ?_, fun i x e => ?_, r.ap, fun a b e => ?_, r.len⟩, ⟨⟨sF, rfl⟩, fun a x e _ => ?_, fun a x e => ⟨x, ?_⟩, fun a x e => ?_⟩⟩
  · have e : upd g.F p o a = some x := e
    by_cases ha : a = p
    · exact .inr (by rw [ha]; exact r.oldN hp)
    · rw [upd_ne ha] at e
      exact r.nf a x e
  · have q := r.fr a x e n
    rw [upd_ne (ne_of_none q hp)]
    exact q
  · have e : upd g.F p o b = some x := e
    by_cases hb : b = p
    · subst hb
      rw [upd_same] at e ⊢
      exact e
    · rw [upd_ne hb] at e ⊢
      exact r.ex b x e
  · obtain ⟨v, h1, h2⟩ := r.sl i x e
    refine ⟨v, h1, ?_⟩
    cases x with
    | dat d => exact dp_mono sF h2
    | deck => exact h2
    | exc _ => exact h2
    | own l =>
      obtain ⟨a, xs, rfl, h3, h4, h5, h6⟩ := h2
      have ne : a ≠ p := ne_of_none h5 hp
      refine ⟨a, xs, rfl, ?_, h4, ?_, dpAll_mono sF h6⟩
      · show upd g.F p o a = none
        rw [upd_ne ne]
        exact h3
      · rw [upd_ne ne]
        exact h5
  · obtain ⟨h1, h2, h3, ns, h4, h5, h6, ys, h7, h8⟩ := r.dk a b e
    have na : a ≠ p := ne_of_none h7 hp
    have nb : b ≠ p := ne_of_none h6 hp
    refine ⟨h1, ?_, ?_, ns, h4, h5, ?_, ys, ?_, h8.mono sF⟩
    · show upd g.F p o a = none
      rw [upd_ne na]
      exact h2
    · show upd g.F p o b = none
      rw [upd_ne nb]
      exact h3
    · rw [upd_ne nb]
      exact h6
    · rw [upd_ne na]
      exact h7
  · rw [upd_ne (ne_of_none e hp)]
    exact e
  · rw [upd_ne (ne_of_none e hp)]
    exact e
  · have e : upd g.F p o a = some x := e
    by_cases ha : a = p
    · exact .inr (by rw [ha]; exact hp)
    · rw [upd_ne ha] at e
      exact .inl e
end

/-! ### readings over data -/
abbrev DE := Ev → Nat → (Vl → Nat → Prop) → Prop
abbrev DT := Ev → Nat → (Bool → Nat → Prop) → Prop
abbrev DA := Ev → Nat → (List Vl → Nat → Prop) → Prop
abbrev DI := Ev → Nat → (List PyData → Nat → Prop) → Prop
abbrev DG := Vl → Ev → (Ev → Prop) → Prop
abbrev DGs := List PyData → Ev → (Ev → Prop) → Prop
/-- the slots ws may have changed -/
def Ag (ws : List Nat) (σ σ' : L2.St) : Prop := σ'.length = σ.length ∧ ∀ i, i ∉ ws → σ'[i]? = σ[i]?
structure DEnds where
  nx : Ev → Nat → Prop
  rt : Vl → Nat → Prop
  bk : Ev → Nat → Prop
  ct : Ev → Nat → Prop
abbrev DS := DEnds → Ev → Nat → Prop

def VOks (K : PySem.W.Frag) (g : Gh) (H : Hp) : List V → List Vl → Prop
  | [], [] => True
  | v :: vs, x :: xs => VOk K g H v x ∧ VOks K g H vs xs
  | _, _ => False
/-- a value that goes from hand to hand -/
def free : Vl → Prop
  | .own _ => False
  | _ => True
theorem VOk.mono {K : PySem.W.Frag} {g g' : Gh} {H H' : Hp} {v : V} {x : Vl} (m : Mo g g') (hf : free x) (h : VOk K g H v x) : VOk K g' H' v x := by
  cases x with
  | dat d => exact dp_mono m.f h
  | exc _ => exact h
  | deck =>
    obtain ⟨p, q, e, z⟩ := h
    exact ⟨p, q, by rw [m.d]; exact e, z⟩
  | own l => exact hf.elim

section
variable (K : PySem.W.Frag) (E : En)
def up (dt : DE) : TE := fun σ H Q => ∃ g env c P, Rel K E g env c σ H ∧ dt env c P ∧
  ∀ x c' g' H' v, P x c' → Mv g H g' H' → Rel K E g' env c' σ H' → VOk K g' H' v x → free x → Q v H'
def upT (dt : DT) : TT := fun σ H Q => ∃ g env c P, Rel K E g env c σ H ∧ dt env c P ∧
  ∀ b c' g' H', P b c' → Mv g H g' H' → Rel K E g' env c' σ H' → Q b H'
def upA (dt : DA) : TA := fun σ H Q => ∃ g env c P, Rel K E g env c σ H ∧ dt env c P ∧
  ∀ xs c' g' H' vs, P xs c' → Mv g H g' H' → Rel K E g' env c' σ H' → VOks K g' H' vs xs → (∀ x ∈ xs, free x) → Q vs H'
def upG (ws : List Nat) (dg : DG) : TG := fun v σ H Q => ∃ g env c x P, Rel K E g env c σ H ∧ VOk K g H v x ∧ free x ∧ dg x env P ∧
  ∀ env' g' σ' H', P env' → Mv g H g' H' → Rel K E g' env' c σ' H' → Ag ws σ σ' → Q σ' H'
def upGs (ws : List Nat) (dg : DGs) : TGs := fun vs σ H Q => ∃ g env c ds P, Rel K E g env c σ H ∧ DpAll K g.F vs ds ∧ dg ds env P ∧
  ∀ env' g' σ' H', P env' → Mv g H g' H' → Rel K E g' env' c σ' H' → Ag ws σ σ' → Q σ' H'
def upS (dt : DS) : TS := fun D σ H => ∃ g env c P, Rel K E g env c σ H ∧ dt P env c ∧
  (∀ env' c' g' σ' H', P.nx env' c' → Same g.F g'.F → Rel K E g' env' c' σ' H' → D.nx σ' H') ∧
  (∀ x c' env' g' σ' H' v, P.rt x c' → Same g.F g'.F → Rel K E g' env' c' σ' H' → VOk K g' H' v x → free x → D.rt v H') ∧
  (∀ env' c' g' σ' H', P.bk env' c' → Same g.F g'.F → Rel K E g' env' c' σ' H' → D.bk σ' H') ∧
  (∀ env' c' g' σ' H', P.ct env' c' → Same g.F g'.F → Rel K E g' env' c' σ' H' → D.ct σ' H')
end
abbrev DPE (X : Cx) (E : En) (e : Expr) (dt : DE) : Prop := PE X e (up X.K E dt)
abbrev DPT (X : Cx) (E : En) (e : Expr) (dt : DT) : Prop := PT X e (upT X.K E dt)
abbrev DPA (X : Cx) (E : En) (e : List Expr) (dt : DA) : Prop := PA X e (upA X.K E dt)
abbrev DPG (X : Cx) (E : En) (ws : List Nat) (e : Expr) (dt : DG) : Prop := PG X e (upG X.K E ws dt)
abbrev DPGs (X : Cx) (E : En) (ws : List Nat) (e : List Expr) (dt : DGs) : Prop := PGs X e (upGs X.K E ws dt)
abbrev DPS (X : Cx) (E : En) (e : Stmt) (dt : DS) : Prop := PS X e (upS X.K E dt)
abbrev DPSs (X : Cx) (E : En) (e : List Stmt) (dt : DS) : Prop := PSs X e (upS X.K E dt)

theorem pe_imp {X : Cx} {e : Expr} {t t' : TE} (h : PE X e t) (i : ∀ σ H Q, t' σ H Q → t σ H Q) : PE X e t' := ⟨fun pins s σ H Q I q => h.run pins s σ H Q I (i σ H Q q)⟩
theorem pt_imp {X : Cx} {e : Expr} {t t' : TT} (h : PT X e t) (i : ∀ σ H Q, t' σ H Q → t σ H Q) : PT X e t' := ⟨fun pins s σ H Q I q => h.run pins s σ H Q I (i σ H Q q)⟩
theorem pw_imp {X : Cx} {e : Expr} {t t' : TT} (h : PW X e t) (i : ∀ σ H Q, t' σ H Q → t σ H Q) : PW X e t' := ⟨fun wh pins s σ H Q I q => h.run wh pins s σ H Q I (i σ H Q q)⟩
theorem pa_imp {X : Cx} {e : List Expr} {t t' : TA} (h : PA X e t) (i : ∀ σ H Q, t' σ H Q → t σ H Q) : PA X e t' := ⟨fun pos pins s σ H Q I q => h.run pos pins s σ H Q I (i σ H Q q)⟩
theorem pg_imp {X : Cx} {e : Expr} {t t' : TG} (h : PG X e t) (i : ∀ v σ H Q, t' v σ H Q → t v σ H Q) : PG X e t' := ⟨fun pins s σ H v u Q I r q => h.run pins s σ H v u Q I r (i v σ H Q q)⟩
theorem ps_imp {X : Cx} {e : Stmt} {t t' : TS} (h : PS X e t) (i : ∀ D σ H, t' D σ H → t D σ H) : PS X e t' := ⟨fun pins s σ H D I q => h.run pins s σ H D I (i D σ H q)⟩
theorem pss_imp {X : Cx} {e : List Stmt} {t t' : TS} (h : PSs X e t) (i : ∀ D σ H, t' D σ H → t D σ H) : PSs X e t' := ⟨fun pins s σ H D I q => h.run pins s σ H D I (i D σ H q)⟩
theorem pi_imp {X : Cx} {tg e : Expr} {t t' : TI} (h : PI X tg e t) (i : ∀ σ H Q, t' σ H Q → t σ H Q) : PI X tg e t' := ⟨fun pins s σ H Q I q => h.run pins s σ H Q I (i σ H Q q)⟩

/-! ### data-level words -/
def datK (x : Vl) (k : PyData → Prop) : Prop := match x with
  | .dat d => k d
  | _ => False
def intK (d : PyData) (k : Int → Prop) : Prop := match d with
  | .int i => k i
  | _ => False
def dVar (i : Nat) : DE := fun env c P => match env[i]? with
  | some (some (.dat d)) => P (.dat d) c
  | some (some .deck) => P .deck c
  | some (some (.exc a)) => P (.exc a) c
  | _ => False
def dC (d : PyData) : DE := fun _ c P => P (.dat d) c
def dOp (rd : PyData → PyData → (PyData → Prop) → Prop) (da db : DE) : DE := fun env c P =>
  da env c fun x c1 => datK x fun d => db env c1 fun y c2 => datK y fun e => rd d e fun z => P (.dat z) c2
def dUn (rd : PyData → (PyData → Prop) → Prop) (da : DE) : DE := fun env c P => da env c fun x c1 => datK x fun d => rd d fun z => P (.dat z) c1
def aNil : DA := fun _ c P => P [] c
def aCons (da : DE) (dr : DA) : DA := fun env c P => da env c fun x c1 => dr env c1 fun xs c2 => P (x :: xs) c2
def dCall (sp : List Vl → Nat → (Vl → Nat → Prop) → Prop) (da : DA) : DE := fun env c P => da env c fun xs c1 => sp xs c1 P
def datsK : List Vl → (List PyData → Prop) → Prop
  | [], k => k []
  | .dat d :: r, k => datsK r fun ds => k (d :: ds)
  | _ :: _, _ => False
def dCB (rd : List PyData → (PyData → Prop) → Prop) (da : DA) : DE := fun env c P => da env c fun xs c1 => datsK xs fun ds => rd ds fun z => P (.dat z) c1

section
variable {X : Cx} {E : En} {a b : Expr} {da db : DE} {pos : Pos}
theorem de_var (i : Nat) {x : Str} (hN : X.N[i]? = some x := by rfl) (hv : Vis X.env.scope x := by first | exact Or.inl rfl | exact Or.inr (Or.inl rfl) | exact Or.inr (Or.inr rfl)) (h1 : (x == ("__debug__" : Str)) = false := by decide)
    (h2 : (x == ("__classdict__" : Str)) = false := by decide) : DPE X E (.Name x pos) (dVar i) := by
  refine pe_imp (pe_var hN hv h1 h2) fun σ H Q h => ?_
  obtain ⟨g, env, c, P, r, hd, k⟩ := h
  unfold dVar at hd
  split at hd
  · rename_i d e
    obtain ⟨v, e1, e2⟩ := r.sl i _ e
    exact ⟨v, e1, k _ _ g H v hd (Mv.refl g H) r e2 trivial⟩
  · rename_i e
    obtain ⟨v, e1, e2⟩ := r.sl i _ e
    exact ⟨v, e1, k _ _ g H v hd (Mv.refl g H) r e2 trivial⟩
  · rename_i a e
    obtain ⟨v, e1, e2⟩ := r.sl i _ e
    exact ⟨v, e1, k _ _ g H v hd (Mv.refl g H) r e2 trivial⟩
  · exact hd.elim
theorem de_c {v : V} {d : PyData} (h : PE X a (tC v)) (hd : ∀ K F, Dp K F v d) : DPE X E a (dC d) := by
  refine pe_imp h fun σ H Q q => ?_
  obtain ⟨g, env, c, P, r, p, k⟩ := q
  exact k _ _ g H v p (Mv.refl g H) r (hd _ _) trivial
theorem de_int {i : Int} {j} : DPE X E (.Constant (.int i) j pos) (dC (.int i)) := de_c pe_int fun _ _ => .int i
theorem de_bl {i : Bool} {j} : DPE X E (.Constant (.bool i) j pos) (dC (.bool i)) := de_c pe_bl fun _ _ => .bl i
theorem de_str {i : Str} {j} : DPE X E (.Constant (.str i) j pos) (dC (.str i)) := de_c pe_str fun _ _ => .str i
theorem de_non {j} : DPE X E (.Constant .none j pos) (dC .none) := de_c pe_non fun _ _ => .non

/-- an operation of two values, over data -/
def OpD (K : PySem.W.Frag) (r : R2) (rd : PyData → PyData → (PyData → Prop) → Prop) : Prop :=
  ∀ (E : En) (g : Gh) (env : Ev) (c : Nat) (σ : L2.St) (H : Hp) (x y : V) (d e : PyData) (P : PyData → Prop) (Q : VK), Rel K E g env c σ H → Dp K g.F x d → Dp K g.F y e → rd d e P →
    (∀ z g' H' v, P z → Mv g H g' H' → Rel K E g' env c σ H' → Dp K g'.F v z → Q v H') → r x y H Q
def UnD (K : PySem.W.Frag) (r : V → Hp → VK → Prop) (rd : PyData → (PyData → Prop) → Prop) : Prop :=
  ∀ (E : En) (g : Gh) (env : Ev) (c : Nat) (σ : L2.St) (H : Hp) (x : V) (d : PyData) (P : PyData → Prop) (Q : VK), Rel K E g env c σ H → Dp K g.F x d → rd d P →
    (∀ z g' H' v, P z → Mv g H g' H' → Rel K E g' env c σ H' → Dp K g'.F v z → Q v H') → r x H Q
def CallD (K : PySem.W.Frag) (r : List V → Hp → VK → Prop) (rd : List PyData → (PyData → Prop) → Prop) : Prop :=
  ∀ (E : En) (g : Gh) (env : Ev) (c : Nat) (σ : L2.St) (H : Hp) (xs : List V) (ds : List PyData) (P : PyData → Prop) (Q : VK), Rel K E g env c σ H → DpAll K g.F xs ds → rd ds P →
    (∀ z g' H' v, P z → Mv g H g' H' → Rel K E g' env c σ H' → Dp K g'.F v z → Q v H') → r xs H Q

theorem op_up {r : R2} {rd : PyData → PyData → (PyData → Prop) → Prop} {K : PySem.W.Frag} (hd : OpD K r rd) {σ : L2.St} {H : Hp} {Q : VK} (h : up K E (dOp rd da db) σ H Q) : tOp r (up K E da) (up K E db) σ H Q := by
  obtain ⟨g, env, c, P, rel, q, k⟩ := h
  refine ⟨g, env, c, _, rel, q, fun x c1 g1 H1 v p1 m1 r1 o1 f1 => ?_⟩
  cases x with
  | deck => exact p1.elim
  | exc _ => exact p1.elim
  | own l => exact p1.elim
  | dat d =>
    refine ⟨g1, env, c1, _, r1, p1, fun y c2 g2 H2 u p2 m2 r2 o2 f2 => ?_⟩
    cases y with
    | deck => exact p2.elim
    | exc _ => exact p2.elim
    | own l => exact p2.elim
    | dat e => exact hd E g2 env c2 σ H2 v u d e _ Q r2 (dp_mono m2.f o1) o2 p2 fun z g3 H3 w pz m3 r3 dz => k _ _ g3 H3 w pz ((m1.trans m2).trans m3) r3 dz trivial
theorem de_op {op : Operator} {r : R2} {rd : PyData → PyData → (PyData → Prop) → Prop} (ho : OpR X (binaryOp op) r) (hd : OpD X.K r rd) (ha : DPE X E a da) (hb : DPE X E b db) : DPE X E (.BinOp a op b pos) (dOp rd da db) :=
  pe_imp (pe_op ho ha hb) fun _ _ _ h => op_up hd h
theorem de_cmp {op : CmpOp} {r : R2} {rd : PyData → PyData → (PyData → Prop) → Prop} (ho : OpR X (compareOp op) r) (hd : OpD X.K r rd) (ha : DPE X E a da) (hb : DPE X E b db) (hm : behindInMarks op b = false := by first | exact nobehind _ (by decide) (by decide) | rfl) :
    DPE X E (.Compare a [op] [b] pos) (dOp rd da db) := pe_imp (pe_cmpR ho ha hb hm) fun _ _ _ h => op_up hd h
theorem de_ix {r : R2} {rd : PyData → PyData → (PyData → Prop) → Prop} (ho : IxR X r) (hd : OpD X.K r rd) (ha : DPE X E a da) (hb : DPE X E b db) (hs : PlainIx b := by exact fun _ _ => rfl) : DPE X E (.Subscript a b pos) (dOp rd da db) :=
  pe_imp (pe_ix ho ha hb hs) fun _ _ _ h => op_up hd h
theorem de_un {op : UnaryOp} {r : V → Hp → VK → Prop} {rd : PyData → (PyData → Prop) → Prop} (ho : UnR X (unaryOp op) r) (hd : UnD X.K r rd) (ha : DPE X E a da) : DPE X E (.UnaryOp op a pos) (dUn rd da) := by
  refine pe_imp (pe_un ho ha) fun σ H Q h => ?_
  obtain ⟨g, env, c, P, rel, q, k⟩ := h
  refine ⟨g, env, c, _, rel, q, fun x c1 g1 H1 v p1 m1 r1 o1 f1 => ?_⟩
  cases x with
  | deck => exact p1.elim
  | exc _ => exact p1.elim
  | own l => exact p1.elim
  | dat d => exact hd E g1 env c1 σ H1 v d _ Q r1 o1 p1 fun z g3 H3 w pz m3 r3 dz => k _ _ g3 H3 w pz (m1.trans m3) r3 dz trivial

/-! ### arguments and calls -/
theorem da_nil : DPA X E [] aNil := by
  refine pa_imp pa_nil fun σ H Q h => ?_
  obtain ⟨g, env, c, P, rel, q, k⟩ := h
  exact k [] c g H [] q (Mv.refl g H) rel trivial (fun _ h => nomatch h)
theorem VOks.mono {K : PySem.W.Frag} {g g' : Gh} {H H' : Hp} (m : Mo g g') : ∀ {vs : List V} {xs : List Vl}, (∀ x ∈ xs, free x) → VOks K g H vs xs → VOks K g' H' vs xs
  | [], [], _, _ => trivial
  | v :: vs, x :: xs, hf, h => ⟨VOk.mono m (hf x List.mem_cons_self) h.1, VOks.mono m (fun y hy => hf y (List.mem_cons_of_mem _ hy)) h.2⟩
  | [], _ :: _, _, h => h.elim
  | _ :: _, [], _, h => h.elim
theorem da_cons {es : List Expr} {dr : DA} (ha : DPE X E a da) (hr : DPA X E es dr) (hs : starEach (a :: es) X.env = (false, eval a X.env) :: starEach es X.env := by rfl) : DPA X E (a :: es) (aCons da dr) := by
  refine pa_imp (pa_cons ha hr hs) fun σ H Q h => ?_
  obtain ⟨g, env, c, P, rel, q, k⟩ := h
  refine ⟨g, env, c, _, rel, q, fun x c1 g1 H1 v p1 m1 r1 o1 f1 => ⟨g1, env, c1, _, r1, p1, fun xs c2 g2 H2 vs p2 m2 r2 o2 f2 => ?_⟩⟩
  refine k _ _ g2 H2 (v :: vs) p2 (m1.trans m2) r2 ⟨VOk.mono m2.toMo f1 o1, o2⟩ fun y hy => ?_
  rcases List.mem_cons.mp hy with rfl | hy
  · exact f1
  · exact f2 y hy
theorem datsK_all {K : PySem.W.Frag} {g : Gh} {H : Hp} : ∀ {xs : List Vl} {vs : List V} {k : List PyData → Prop}, VOks K g H vs xs → datsK xs k → ∃ ds, k ds ∧ DpAll K g.F vs ds
  | [], [], k, _, h => ⟨[], h, .nil⟩
  | [], _ :: _, k, h, _ => h.elim
  | _ :: _, [], k, h, _ => h.elim
  | .dat d :: xs, v :: vs, k, h, q => by
    obtain ⟨ds, h1, h2⟩ := datsK_all h.2 q
    exact ⟨d :: ds, h1, .cons h.1 h2⟩
  | .deck :: _, _ :: _, _, _, h => h.elim
  | .exc _ :: _, _ :: _, _, _, h => h.elim
  | .own _ :: _, _ :: _, _, _, h => h.elim
theorem cb_up {r : List V → Hp → VK → Prop} {rd : List PyData → (PyData → Prop) → Prop} {K : PySem.W.Frag} (hd : CallD K r rd) {dr : DA} {σ : L2.St} {H : Hp} {Q : VK} (h : up K E (dCB rd dr) σ H Q) : tCB r (upA K E dr) σ H Q := by
  obtain ⟨g, env, c, P, rel, q, k⟩ := h
  refine ⟨g, env, c, _, rel, q, fun xs c1 g1 H1 vs p1 m1 r1 o1 f1 => ?_⟩
  obtain ⟨ds, h1, h2⟩ := datsK_all o1 p1
  exact hd E g1 env c1 σ H1 vs ds _ Q r1 h2 h1 fun z g3 H3 w pz m3 r3 dz => k _ _ g3 H3 w pz (m1.trans m3) r3 dz trivial
theorem de_callB {x : Str} {p : Pos} {id : String} {es : List Expr} {dr : DA} {r : List V → Hp → VK → Prop} {rd : List PyData → (PyData → Prop) → Prop} (hc : CallR X (.builtin id) r) (hd : CallD X.K r rd) (hm : X.mg x = none) (hv : bootBuiltins x = some (.builtin id)) (ha : DPA X E (a :: es) dr)
    (hg : Gl X x := by rfl) (hn : x ≠ "__name__" := by decide) (hdb : (x == ("__debug__" : Str)) = false := by decide)
    (he : starEach (a :: es) X.env = (false, eval a X.env) :: starEach es X.env := by rfl) (hpl : (backTo pos (starEach es X.env)).any (·.1) = false := by rfl) : DPE X E (.Call (.Name x p) (a :: es) [] pos) (dCB rd dr) :=
  pe_imp (pe_callB hc hg hm hv ha hn hdb he hpl) fun _ _ _ h => cb_up hd h
theorem de_callT {x : Str} {p : Pos} {id : String} {es : List Expr} {dr : DA} {r : List V → Hp → VK → Prop} {rd : List PyData → (PyData → Prop) → Prop} (hc : CallR X (.type id) r) (hd : CallD X.K r rd) (hm : X.mg x = none) (hv : bootBuiltins x = some (.type id)) (ha : DPA X E (a :: es) dr)
    (hg : Gl X x := by rfl) (hn : x ≠ "__name__" := by decide) (hdb : (x == ("__debug__" : Str)) = false := by decide)
    (he : starEach (a :: es) X.env = (false, eval a X.env) :: starEach es X.env := by rfl) (hpl : (backTo pos (starEach es X.env)).any (·.1) = false := by rfl) : DPE X E (.Call (.Name x p) (a :: es) [] pos) (dCB rd dr) :=
  pe_imp (pe_callTy hc hg hm hv ha hn hdb he hpl) fun _ _ _ h => cb_up hd h
end
end DL
namespace DL
open PySem PySem.Spec PyProof.Rows L2

/-! ### operations on ints -/
def rdI (f : Int → Int → PyData) : PyData → PyData → (PyData → Prop) → Prop := fun d e P => intK d fun i => intK e fun j => P (f i j)
def rdIc (C : Int → Int → Prop) (f : Int → Int → PyData) : PyData → PyData → (PyData → Prop) → Prop := fun d e P => intK d fun i => intK e fun j => C i j ∧ P (f i j)
section
variable {K : PySem.W.Frag}
theorem dp_int {F : Hp} {v : V} {i : Int} (h : Dp K F v (.int i)) : v = .int i := by cases h; rfl
theorem dp_bl {F : Hp} {v : V} {i : Bool} (h : Dp K F v (.bool i)) : v = .bl i := by cases h; rfl
theorem dp_str {F : Hp} {v : V} {i : Str} (h : Dp K F v (.str i)) : v = .str i := by cases h; rfl
theorem dp_non {F : Hp} {v : V} (h : Dp K F v .none) : v = .non := by cases h; rfl
theorem opd_I0 {gV : Int → Int → V} {gD : Int → Int → PyData} (h : ∀ K F i j, Dp K F (gV i j) (gD i j)) : OpD K (rI0 gV) (rdI gD) := by
  intro E g env c σ H x y d e P Q r hx hy q k
  cases d <;> try exact q.elim
  cases e <;> try exact q.elim
  exact ⟨_, _, dp_int hx, dp_int hy, k _ g H _ q (Mv.refl g H) r (h _ _ _ _)⟩
theorem opd_I {C : Int → Int → Prop} {gV : Int → Int → V} {gD : Int → Int → PyData} (h : ∀ K F i j, Dp K F (gV i j) (gD i j)) : OpD K (rI C gV) (rdIc C gD) := by
  intro E g env c σ H x y d e P Q r hx hy q k
  cases d <;> try exact q.elim
  cases e <;> try exact q.elim
  exact ⟨_, _, dp_int hx, dp_int hy, q.1, k _ g H _ q.2 (Mv.refl g H) r (h _ _ _ _)⟩
abbrev rdAdd := rdI fun i j => .int (i + j)
abbrev rdSub := rdI fun i j => .int (i - j)
abbrev rdMul := rdIc CMul fun i j => .int (i * j)
abbrev rdMod := rdIc (fun _ j => 0 < j) fun i j => .int (i % j)
abbrev rdDiv := rdIc CDiv fun i j => .int (i / j)
abbrev rdPow := rdIc CPow fun i j => .int (i ^ j.toNat)
abbrev rdLt := rdI fun i j => .bool (decide (i < j))
abbrev rdLe := rdI fun i j => .bool (decide (i ≤ j))
abbrev rdGt := rdI fun i j => .bool (decide (j < i))
abbrev rdGe := rdI fun i j => .bool (decide (j ≤ i))
end
section
variable {X : Cx} {E : En} {a b : Expr} {da db : DE} {pos : Pos}
theorem de_add (ha : DPE X E a da) (hb : DPE X E b db) : DPE X E (.BinOp a .Add b pos) (dOp rdAdd da db) := de_op op_add (opd_I0 fun _ _ _ _ => .int _) ha hb
theorem de_sub (ha : DPE X E a da) (hb : DPE X E b db) : DPE X E (.BinOp a .Sub b pos) (dOp rdSub da db) := de_op op_sub (opd_I0 fun _ _ _ _ => .int _) ha hb
theorem de_mul (ha : DPE X E a da) (hb : DPE X E b db) : DPE X E (.BinOp a .Mult b pos) (dOp rdMul da db) := de_op op_mul (opd_I fun _ _ _ _ => .int _) ha hb
theorem de_mod (ha : DPE X E a da) (hb : DPE X E b db) : DPE X E (.BinOp a .Mod b pos) (dOp rdMod da db) := de_op op_mod (opd_I fun _ _ _ _ => .int _) ha hb
theorem de_div (ha : DPE X E a da) (hb : DPE X E b db) : DPE X E (.BinOp a .FloorDiv b pos) (dOp rdDiv da db) := de_op op_fdiv (opd_I fun _ _ _ _ => .int _) ha hb
theorem de_pow (ha : DPE X E a da) (hb : DPE X E b db) : DPE X E (.BinOp a .Pow b pos) (dOp rdPow da db) := de_op op_pow (opd_I fun _ _ _ _ => .int _) ha hb
theorem de_lt (ha : DPE X E a da) (hb : DPE X E b db) : DPE X E (.Compare a [.Lt] [b] pos) (dOp rdLt da db) := de_cmp op_lt (opd_I0 fun _ _ _ _ => .bl _) ha hb
theorem de_le (ha : DPE X E a da) (hb : DPE X E b db) : DPE X E (.Compare a [.LtE] [b] pos) (dOp rdLe da db) := de_cmp op_le (opd_I0 fun _ _ _ _ => .bl _) ha hb
theorem de_gt (ha : DPE X E a da) (hb : DPE X E b db) : DPE X E (.Compare a [.Gt] [b] pos) (dOp rdGt da db) := de_cmp op_gt (opd_I0 fun _ _ _ _ => .bl _) ha hb
theorem de_ge (ha : DPE X E a da) (hb : DPE X E b db) : DPE X E (.Compare a [.GtE] [b] pos) (dOp rdGe da db) := de_cmp op_ge (opd_I0 fun _ _ _ _ => .bl _) ha hb
def rdNeg : PyData → (PyData → Prop) → Prop := fun d P => intK d fun i => P (.int (-i))
theorem de_neg (ha : DPE X E a da) : DPE X E (.UnaryOp .USub a pos) (dUn rdNeg da) := by
  refine de_un un_neg (fun E g env c σ H x d P Q r hx q k => ?_) ha
  cases d <;> try exact q.elim
  exact ⟨_, dp_int hx, k _ g H _ q (Mv.refl g H) r (.int _)⟩

/-! ### == and != -/
def rdEq : PyData → PyData → (PyData → Prop) → Prop := fun d e P => match d, e with
  | .str x, .str y => P (.bool (decide (x = y)))
  | .int i, .int j => P (.bool (decide (i = j)))
  | d, e => SeqAt.shaped d = true ∧ SeqAt.shaped e = true ∧ P (.bool (PyData.eqv d e))
def rdNe : PyData → PyData → (PyData → Prop) → Prop := fun d e P => rdEq d e fun z => match z with
  | .bool b => P (.bool (!b))
  | _ => False
theorem op_or {f : Value → Value → Sem Value} {r r' : R2} (h : OpR X f r) (h' : OpR X f r') : OpR X f (fun x y H Q => r x y H Q ∨ r' x y H Q) := by
  intro pins s σ H x y v u Q I rx ry q
  rcases q with q | q
  · exact h pins s σ H x y v u Q I rx ry q
  · exact h' pins s σ H x y v u Q I rx ry q
theorem dpF {K : PySem.W.Frag} {E : En} {g : Gh} {env : Ev} {c : Nat} {σ : L2.St} {H : Hp} (r : Rel K E g env c σ H) {v : V} {d : PyData} (h : Dp K g.F v d) : Dp K H v d := dp_mono r.ex h
theorem opd_eq {K : PySem.W.Frag} : OpD K (fun x y H Q => rEq x y H Q ∨ rEqD K x y H Q) rdEq := by
  intro E g env c σ H x y d e P Q r hx hy q k
  unfold rdEq at q
  split at q
  · rename_i a b
    rw [dp_str hx, dp_str hy]
    refine .inl ⟨rfl, ?_⟩
    have := k _ g H (.bl (decide (a = b))) q (Mv.refl g H) r (.bl _)
    rwa [show decide (V.str a = V.str b) = decide (a = b) from by simp]
  · rename_i a b
    rw [dp_int hx, dp_int hy]
    refine .inl ⟨rfl, ?_⟩
    have := k _ g H (.bl (decide (a = b))) q (Mv.refl g H) r (.bl _)
    rwa [show decide (V.int a = V.int b) = decide (a = b) from by simp]
  · exact .inr ⟨_, _, dp_l2 (dpF r hx) (PyData.hasDict_of_canLay _ (SeqAt.canLay_of_shaped q.1)), dp_l2 (dpF r hy) (PyData.hasDict_of_canLay _ (SeqAt.canLay_of_shaped q.2.1)), q.1, q.2.1, k _ g H _ q.2.2 (Mv.refl g H) r (.bl _)⟩
theorem opd_ne {K : PySem.W.Frag} : OpD K (fun x y H Q => rNe x y H Q ∨ rNeD K x y H Q) rdNe := by
  intro E g env c σ H x y d e P Q r hx hy q k
  unfold rdNe rdEq at q
  split at q
  · rename_i a b
    rw [dp_str hx, dp_str hy]
    refine .inl ⟨rfl, ?_⟩
    have := k _ g H (.bl (!decide (a = b))) q (Mv.refl g H) r (.bl _)
    rwa [show decide (V.str a = V.str b) = decide (a = b) from by simp]
  · rename_i a b
    rw [dp_int hx, dp_int hy]
    refine .inl ⟨rfl, ?_⟩
    have := k _ g H (.bl (!decide (a = b))) q (Mv.refl g H) r (.bl _)
    rwa [show decide (V.int a = V.int b) = decide (a = b) from by simp]
  · exact .inr ⟨_, _, dp_l2 (dpF r hx) (PyData.hasDict_of_canLay _ (SeqAt.canLay_of_shaped q.1)), dp_l2 (dpF r hy) (PyData.hasDict_of_canLay _ (SeqAt.canLay_of_shaped q.2.1)), q.1, q.2.1, k _ g H _ q.2.2 (Mv.refl g H) r (.bl _)⟩
theorem de_eq {k : Nat} (hr : Room k X.A) (ha : DPE X E a da) (hb : DPE X E b db) : DPE X E (.Compare a [.Eq] [b] pos) (dOp rdEq da db) := de_cmp (op_or op_eq (op_eqD hr.units)) opd_eq ha hb
theorem de_ne {k : Nat} (hr : Room k X.A) (ha : DPE X E a da) (hb : DPE X E b db) : DPE X E (.Compare a [.NotEq] [b] pos) (dOp rdNe da db) := de_cmp (op_or op_ne (op_neD hr.units)) opd_ne ha hb

/-! ### is None -/
def rdIsN : PyData → (PyData → Prop) → Prop := fun d P => match d with
  | .none => P (.bool true)
  | _ => P (.bool false)
def rdNotN : PyData → (PyData → Prop) → Prop := fun d P => match d with
  | .none => P (.bool false)
  | _ => P (.bool true)
theorem dp_isN {K : PySem.W.Frag} {F : Hp} {v : V} {d : PyData} (h : Dp K F v d) : (d = .none ∧ v = .non) ∨ (d ≠ .none ∧ v ≠ .non) := by
  cases h <;> first | exact .inl ⟨rfl, rfl⟩ | exact .inr ⟨(fun z => nomatch z), (fun z => nomatch z)⟩
theorem de_isN {j} {p2 : Pos} (ha : DPE X E a da) : DPE X E (.Compare a [.Is] [.Constant .none j p2] pos) (dUn rdIsN da) := by
  refine pe_imp (pe_cmp (pc_isN ha) rfl) fun σ H Q h => ?_
  obtain ⟨g, env, c, P, rel, q, k⟩ := h
  refine ⟨g, env, c, _, rel, q, fun x c1 g1 H1 v p1 m1 r1 o1 f1 => ?_⟩
  cases x with
  | deck => exact p1.elim
  | exc _ => exact p1.elim
  | own l => exact p1.elim
  | dat d =>
    rcases dp_isN o1 with ⟨rfl, rfl⟩ | ⟨n1, n2⟩
    · exact k _ _ g1 H1 (.bl (decide (V.non = .non))) p1 m1 r1 (.bl _) trivial
    · have p1' : P (.dat (.bool false)) c1 := by
        cases d <;> first | exact absurd rfl n1 | exact p1
      rw [decide_eq_false n2]
      exact k _ _ g1 H1 (.bl false) p1' m1 r1 (.bl _) trivial
theorem de_notN {j} {p2 : Pos} (ha : DPE X E a da) : DPE X E (.Compare a [.IsNot] [.Constant .none j p2] pos) (dUn rdNotN da) := by
  refine pe_imp (pe_cmp (pc_notN ha) rfl) fun σ H Q h => ?_
  obtain ⟨g, env, c, P, rel, q, k⟩ := h
  refine ⟨g, env, c, _, rel, q, fun x c1 g1 H1 v p1 m1 r1 o1 f1 => ?_⟩
  cases x with
  | deck => exact p1.elim
  | exc _ => exact p1.elim
  | own l => exact p1.elim
  | dat d =>
    rcases dp_isN o1 with ⟨rfl, rfl⟩ | ⟨n1, n2⟩
    · exact k _ _ g1 H1 (.bl (!decide (V.non = .non))) p1 m1 r1 (.bl _) trivial
    · have p1' : P (.dat (.bool true)) c1 := by
        cases d <;> first | exact absurd rfl n1 | exact p1
      rw [decide_eq_false n2]
      exact k _ _ g1 H1 (.bl true) p1' m1 r1 (.bl _) trivial

/-! ### items -/
def ixK (ds : List PyData) (e : PyData) (P : PyData → Prop) : Prop := intK e fun i => match atI ds i with
  | some z => P z
  | none => False
def rdIx : PyData → PyData → (PyData → Prop) → Prop := fun d e P => match d with
  | .list ds => ixK ds e P
  | .tuple ds => ixK ds e P
  | _ => False
theorem atI_dp {K : PySem.W.Frag} {F : Hp} {xs : List V} {ds : List PyData} (h : DpAll K F xs ds) {i : Int} {d : PyData} (e : atI ds i = some d) : ∃ v, atI xs i = some v ∧ Dp K F v d := by
  unfold atI at e ⊢
  rw [DpAll.len h]
  cases hi : ixN ds.length i with
  | none => rw [hi] at e; cases e
  | some j =>
    rw [hi] at e
    exact DpAll.get h e
theorem opd_ix {K : PySem.W.Frag} : OpD K (fun x y H Q => rIxL K x y H Q ∨ rIxT K x y H Q) rdIx := by
  intro E g env c σ H x y d e P Q r hx hy q k
  cases d <;> try exact q.elim
  · rename_i ds
    have q1 : ixK ds e P := q
    clear q
    cases e <;> try exact q1.elim
    rename_i i
    cases hx with
    | lst hs ha =>
      have q : (match atI ds i with | some z => P z | none => False) := q1
      cases hz : atI ds i with
      | none => rw [hz] at q; exact q.elim
      | some z =>
        rw [hz] at q
        obtain ⟨v, h1, h2⟩ := atI_dp ha hz
        exact .inl ⟨_, _, i, v, rfl, dp_int hy, r.ex.seq hs, h1, k _ g H v q (Mv.refl g H) r h2⟩
  · rename_i ds
    have q1 : ixK ds e P := q
    clear q
    cases e <;> try exact q1.elim
    rename_i i
    cases hx with
    | tup hs ha =>
      have q : (match atI ds i with | some z => P z | none => False) := q1
      cases hz : atI ds i with
      | none => rw [hz] at q; exact q.elim
      | some z =>
        rw [hz] at q
        obtain ⟨v, h1, h2⟩ := atI_dp ha hz
        exact .inr ⟨_, _, i, v, rfl, dp_int hy, seqT r.ex hs, h1, k _ g H v q (Mv.refl g H) r h2⟩
theorem de_item (ha : DPE X E a da) (hb : DPE X E b db) (hs : PlainIx b := by exact fun _ _ => rfl) : DPE X E (.Subscript a b pos) (dOp rdIx da db) := de_ix (IxR.or ix_list ix_tup) opd_ix ha hb hs

/-! ### displays -/
def dTup (dr : DA) : DE := fun env c P => dr env c fun xs c1 => datsK xs fun ds => ds.length ≤ sizeLine ∧ P (.dat (.tuple ds)) c1
def dLst (dr : DA) : DE := fun env c P => dr env c fun xs c1 => datsK xs fun ds => ds.length ≤ sizeLine ∧ P (.dat (.list ds)) c1
theorem de_tup {es : List Expr} {dr : DA} {x1} (h : DPA X E es dr) : DPE X E (.Tuple es x1 pos) (dTup dr) := by
  refine pe_imp (pe_tup h) fun σ H Q h => ?_
  obtain ⟨g, env, c, P, rel, q, k⟩ := h
  refine ⟨g, env, c, _, rel, q, fun xs c1 g1 H1 vs p1 m1 r1 o1 f1 => ?_⟩
  obtain ⟨ds, h1, h2⟩ := datsK_all o1 p1
  refine ⟨by rw [DpAll.len h2]; exact h1.1, fun p hp => ?_⟩
  obtain ⟨r2, m2⟩ := r1.new (.tup vs) hp
  exact k _ _ _ _ _ h1.2 (m1.trans m2) r2 (.tup (.of upd_same) (dpAll_mono m2.f h2)) trivial
theorem de_lst {es : List Expr} {dr : DA} (h : DPA X E es dr) : DPE X E (.List es pos) (dLst dr) := by
  refine pe_imp (pe_lst h) fun σ H Q h => ?_
  obtain ⟨g, env, c, P, rel, q, k⟩ := h
  refine ⟨g, env, c, _, rel, q, fun xs c1 g1 H1 vs p1 m1 r1 o1 f1 => ?_⟩
  obtain ⟨ds, h1, h2⟩ := datsK_all o1 p1
  refine ⟨by rw [DpAll.len h2]; exact h1.1, fun p hp => ?_⟩
  obtain ⟨r2, m2⟩ := r1.new (.lst vs) hp
  exact k _ _ _ _ _ h1.2 (m1.trans m2) r2 (.lst (.of upd_same) (dpAll_mono m2.f h2)) trivial

/-! ### built-in calls -/
def rdLen : List PyData → (PyData → Prop) → Prop := fun ds P => match ds with
  | [.list xs] => P (.int xs.length)
  | [.tuple xs] => P (.int xs.length)
  | _ => False
theorem cd_len {K : PySem.W.Frag} : CallD K (fun xs H Q => ∃ p ys, xs = [V.ref p] ∧ (SqL K H p ys ∨ SqT K H p ys) ∧ Q (.int ys.length) H) rdLen := by
  intro E g env c σ H xs ds P Q r h q k
  unfold rdLen at q
  split at q
  · cases h with
    | cons h1 t =>
      cases t
      cases h1 with
      | lst hs ha => exact ⟨_, _, rfl, .inl (r.ex.seq hs), by rw [DpAll.len ha]; exact k _ g H _ q (Mv.refl g H) r (.int _)⟩
  · cases h with
    | cons h1 t =>
      cases t
      cases h1 with
      | tup hs ha => exact ⟨_, _, rfl, .inr (seqT r.ex hs), by rw [DpAll.len ha]; exact k _ g H _ q (Mv.refl g H) r (.int _)⟩
  · exact q.elim
def rdTuple : List PyData → (PyData → Prop) → Prop := fun ds P => match ds with
  | [.list xs] => P (.tuple xs)
  | [.tuple xs] => P (.tuple xs)
  | _ => False
theorem cd_tuple {K : PySem.W.Frag} : CallD K (fun xs H Q => ∃ p ys, xs = [V.ref p] ∧ ((SqL K H p ys ∧ ∀ l, H l = none → Q (.ref l) (upd H l (.tup ys))) ∨ (SqT K H p ys ∧ Q (.ref p) H))) rdTuple := by
  intro E g env c σ H xs ds P Q r h q k
  unfold rdTuple at q
  split at q
  · cases h with
    | cons h1 t =>
      cases t
      cases h1 with
      | lst hs ha =>
        refine ⟨_, _, rfl, .inl ⟨r.ex.seq hs, fun l hl => ?_⟩⟩
        obtain ⟨r2, m2⟩ := r.new (.tup _) hl
        exact k _ _ _ _ q m2 r2 (.tup (.of upd_same) (dpAll_mono m2.f ha))
  · cases h with
    | cons h1 t =>
      cases t
      cases h1 with
      | tup hs ha => exact ⟨_, _, rfl, .inr ⟨seqT r.ex hs, k _ g H _ q (Mv.refl g H) r (.tup hs ha)⟩⟩
  · exact q.elim
def intsOf : List PyData → Option (List Int)
  | [] => some []
  | .int i :: r => (intsOf r).map (i :: ·)
  | _ :: _ => none
theorem intsOf_dp {K : PySem.W.Frag} {F : Hp} : ∀ {ds : List PyData} {xs : List V} {ns : List Int}, intsOf ds = some ns → DpAll K F xs ds → xs = ns.map V.int
  | [], _, ns, e, h => by
    cases h
    cases e
    rfl
  | .int i :: r, _, ns, e, h => by
    cases h with
    | cons h1 t =>
      unfold intsOf at e
      cases hr : intsOf r with
      | none => rw [hr] at e; cases e
      | some ms =>
        rw [hr] at e
        cases e
        rw [dp_int h1, intsOf_dp hr t]
        rfl
  | .none :: _, _, _, e, _ => by cases e
  | .bool _ :: _, _, _, e, _ => by cases e
  | .str _ :: _, _, _, e, _ => by cases e
  | .list _ :: _, _, _, e, _ => by cases e
  | .tuple _ :: _, _, _, e, _ => by cases e
  | .dict _ :: _, _, _, e, _ => by cases e
theorem intsOf_map (ns : List Int) : intsOf (ns.map PyData.int) = some ns := by
  induction ns with
  | nil => rfl
  | cons n r ih => simp [intsOf, ih]
def rdSum : List PyData → (PyData → Prop) → Prop := fun ds P => match ds with
  | [.list xs] => ∃ ns, intsOf xs = some ns ∧ P (.int ns.sum)
  | _ => False
theorem cd_sum {K : PySem.W.Frag} : CallD K (rSum K) rdSum := by
  intro E g env c σ H xs ds P Q r h q k
  unfold rdSum at q
  split at q
  · cases h with
    | cons h1 t =>
      cases t
      cases h1 with
      | lst hs ha =>
        obtain ⟨ns, e, q⟩ := q
        have ex := intsOf_dp e ha
        subst ex
        exact ⟨_, ns, rfl, r.ex.seq hs, k _ g H _ q (Mv.refl g H) r (.int _)⟩
  · exact q.elim
def rdMax2 : List PyData → (PyData → Prop) → Prop := fun ds P => match ds with
  | [.int i, .int j] => P (.int (max i j))
  | _ => False
def rdMin2 : List PyData → (PyData → Prop) → Prop := fun ds P => match ds with
  | [.int i, .int j] => P (.int (min i j))
  | _ => False
theorem cd_max2 {K : PySem.W.Frag} : CallD K (fun xs H Q => ∃ i j, xs = [V.int i, V.int j] ∧ Q (.int (if j > i then j else i)) H) rdMax2 := by
  intro E g env c σ H xs ds P Q r h q k
  unfold rdMax2 at q
  split at q
  · rename_i i j
    cases h with
    | cons h1 t =>
      cases t with
      | cons h2 t =>
        cases t
        rw [dp_int h1, dp_int h2]
        refine ⟨i, j, rfl, ?_⟩
        have e : (if j > i then j else i) = max i j := by
          split <;> omega
        rw [e]
        exact k _ g H _ q (Mv.refl g H) r (.int _)
  · exact q.elim
theorem cd_min2 {K : PySem.W.Frag} : CallD K (fun xs H Q => ∃ i j, xs = [V.int i, V.int j] ∧ Q (.int (if j < i then j else i)) H) rdMin2 := by
  intro E g env c σ H xs ds P Q r h q k
  unfold rdMin2 at q
  split at q
  · rename_i i j
    cases h with
    | cons h1 t =>
      cases t with
      | cons h2 t =>
        cases t
        rw [dp_int h1, dp_int h2]
        refine ⟨i, j, rfl, ?_⟩
        have e : (if j < i then j else i) = min i j := by
          split <;> omega
        rw [e]
        exact k _ g H _ q (Mv.refl g H) r (.int _)
  · exact q.elim
def rdInt1 : List PyData → (PyData → Prop) → Prop := fun ds P => match ds with
  | [.int i] => P (.int i)
  | [.bool b] => P (.int (if b then 1 else 0))
  | _ => False
theorem cd_int1 {K : PySem.W.Frag} : CallD K (fun xs H Q => (∃ i, xs = [V.int i] ∧ Q (.int i) H) ∨ ∃ k, xs = [V.bl k] ∧ Q (.int (if k then 1 else 0)) H) rdInt1 := by
  intro E g env c σ H xs ds P Q r h q k
  unfold rdInt1 at q
  split at q
  · cases h with
    | cons h1 t =>
      cases t
      rw [dp_int h1]
      exact .inl ⟨_, rfl, k _ g H _ q (Mv.refl g H) r (.int _)⟩
  · cases h with
    | cons h1 t =>
      cases t
      rw [dp_bl h1]
      exact .inr ⟨_, rfl, k _ g H _ q (Mv.refl g H) r (.int _)⟩
  · exact q.elim

/-! ### repr -/
theorem keys_reads {h : Heap} {P : Program} {w : World} : ∀ {es : List DictEntry} {kvs : List (Key × V)} {vs : List (Key × Value)}, Pairs (mixKind P w) es vs → KV kvs vs →
    (∃ as, ReadsAll h (es.map (·.key)) (kvs.map fun kv => keyD kv.1) as) ∧ Vals (kvs.map (·.2)) (es.map (·.val))
  | [], _, _, p, k => by
    cases p
    cases k
    exact ⟨⟨[], .nil⟩, .nil⟩
  | e :: es, _, _, p, k => by
    cases p with
    | cons h1 h2 h3 =>
      cases k with
      | @cons q r l1 l2 g1 g2 =>
        obtain ⟨⟨as, r1⟩, r2⟩ := keys_reads (h := h) h3 g2
        have hq : Reads h e.key (keyD q.1) [] := by
          rw [g1.1]
          rcases keyIs_shape h1 with ⟨i, t, e1, e2⟩ | ⟨x, t, e1, e2⟩
          · rw [e1, e2]
            exact .int i t
          · rw [e1, e2]
            exact .str x t
        refine ⟨⟨_, .cons hq r1⟩, .cons ?_ r2⟩
        show RelV q.2 e.val
        rw [h2]
        exact g1.2
theorem keys_nodict : ∀ (kvs : List (Key × V)), PyData.hasDictAll (kvs.map fun kv => keyD kv.1) = false
  | [] => rfl
  | (.inl _, _) :: r => by simpa [PyData.hasDictAll, keyD, PyData.hasDict] using keys_nodict r
  | (.inr _, _) :: r => by simpa [PyData.hasDictAll, keyD, PyData.hasDict] using keys_nodict r
mutual
/-- data with dicts, as repr sees it -/
theorem dp_shown {pins : List (Addr × Obj)} {s : Shared} {σ : L2.St} {H : Hp} (I : Inv X pins σ H s) : ∀ {v : V} {d : PyData}, Dp X.K H v d → ∀ {u : Value}, RelV v u → d.showable = true → d.shown.length ≤ sizeLine →
    (∃ as, Reads s.heap u d as) ∧ ∃ bs, ReadAtMost s.heap d.depth bs ∧ ReprK X.prog X.w bs s.heap d.depth u d.shown
  | _, _, .non, _, r, hs, hz => by
    cases r
    exact ⟨⟨_, .none⟩, ReprK.of_reads .none hs (PyData.noDict_hsm rfl) hz⟩
  | _, _, .bl b, _, r, hs, hz => by
    cases r
    exact ⟨⟨_, .bool b⟩, ReprK.of_reads (.bool b) hs (PyData.noDict_hsm rfl) hz⟩
  | _, _, .int i, _, r, hs, hz => by
    obtain ⟨t, rfl⟩ := r
    exact ⟨⟨_, .int i t⟩, ReprK.of_reads (.int i t) hs (PyData.noDict_hsm rfl) hz⟩
  | _, _, .str x, _, r, hs, hz => by
    obtain ⟨t, rfl⟩ := r
    exact ⟨⟨_, .str x t⟩, ReprK.of_reads (.str x t) hs (PyData.noDict_hsm rfl) hz⟩
  | _, _, .lst (a := a) (ds := xs) sq al, _, r, hs, hz => by
    cases r
    obtain ⟨its, rv, ⟨o, n, h1, h2, _, h3⟩, _⟩ := I.list sq
    have hz' : (listText (PyData.shownAll xs)).length ≤ sizeLine := by simpa only [PyData.shown] using hz
    obtain ⟨⟨as, h4⟩, bs, hb, hk⟩ := dpAll_shown I al rv (by simpa [PyData.showable] using hs) (fun t ht => Nat.le_trans (listText_mem_le ht) hz')
    have r : Reads s.heap (.ref a) (.list xs) _ := .list h1 h2 h3 h4
    have hna : a ∉ bs := not_mem_of_deeper r (by simp only [PyData.depth]; omega) hb
    refine ⟨⟨_, r⟩, a :: bs, ReadAtMost.cons r (by simp only [PyData.depth]; omega) hb, ?_⟩
    simp only [PyData.depth, PyData.shown]
    cases its with
    | nil =>
      cases h4
      simp only [PyData.shownAll, listText_nil]
      exact ReprK.listEmpty h1 h2 h3
    | cons x l => exact ReprK.list h1 h2 h3 hna (by simpa using hk.length_eq) (fun i y e => hk.item i y (by simpa using e))
  | _, _, .tup (a := a) (ds := xs) sq al, _, r, hs, hz => by
    cases r
    obtain ⟨its, rv, ⟨o, h1, h2, n, h3⟩, _⟩ := I.tuple sq
    have hz' : (tupleText (PyData.shownAll xs)).length ≤ sizeLine := by simpa only [PyData.shown] using hz
    obtain ⟨⟨as, h4⟩, bs, hb, hk⟩ := dpAll_shown I al rv (by simpa [PyData.showable] using hs) (fun t ht => Nat.le_trans (tupleText_mem_le ht) hz')
    have r : Reads s.heap (.ref a) (.tuple xs) _ := .tuple h1 h2 h3 h4
    have hna : a ∉ bs := not_mem_of_deeper r (by simp only [PyData.depth]; omega) hb
    refine ⟨⟨_, r⟩, a :: bs, ReadAtMost.cons r (by simp only [PyData.depth]; omega) hb, ?_⟩
    simp only [PyData.depth, PyData.shown]
    exact ReprK.tuple h1 h2 h3 hna hk
  | _, _, .dct (a := a) (kvs := kvs) (ds := ds) e al, _, r, hs, hz => by
    cases r
    obtain ⟨_, hsys, vs, kv, o, es, ep, h1, h2, h3, _, pr, _⟩ := (show ObjOk X.prog X.w H s.heap a (.dK kvs) from I.hok a _ e)
    obtain ⟨⟨as₁, q4⟩, rv⟩ := keys_reads (h := s.heap) pr kv
    have hl : kvs.length = ds.length := by simpa using al.len
    have e1 : ((kvs.map fun kv => keyD kv.1).zip ds).map (·.1) = kvs.map fun kv => keyD kv.1 := List.map_fst_zip (by simp [hl])
    have e2 : ((kvs.map fun kv => keyD kv.1).zip ds).map (·.2) = ds := List.map_snd_zip (by simp [hl])
    generalize hg : (kvs.map fun kv => keyD kv.1).zip ds = KS at *
    have hz' : (dictText (PyData.shownKv KS)).length ≤ sizeLine := by simpa only [PyData.shown] using hz
    obtain ⟨hs1, hs2⟩ := PyData.showableKv_split KS (by simpa [PyData.showable] using hs)
    rw [← e1] at q4
    obtain ⟨b1, hb1, k1⟩ := ReprAllK.of_readsAll (prog := X.prog) (w := X.w) q4 hs1 (fun hx => by rw [e1, keys_nodict] at hx; cases hx) (fun t ht => let ⟨p, hp, hl⟩ := PyData.shownKv_key_le KS t ht; Nat.le_trans hl (Nat.le_trans (dictText_mem_le hp) hz'))
    obtain ⟨⟨bs₁, q5⟩, b2, hb2, k2⟩ := dpAll_shown I al rv (by rw [← e2]; exact hs2) (fun t ht => let ⟨p, hp, hl⟩ := PyData.shownKv_val_le KS t (by rw [e2]; exact ht); Nat.le_trans hl (Nat.le_trans (dictText_mem_le hp) hz'))
    rw [← e2] at q5 hb2 k2
    have r : Reads s.heap (.ref a) (.dict KS) _ := .dict h1 h2.1 h3 q4 q5
    have hb : ReadAtMost s.heap (PyData.depthKv KS) (b1 ++ b2) := (hb1.mono (PyData.depthAll_keys_le KS)).append (hb2.mono (PyData.depthAll_vals_le KS))
    have hna : a ∉ b1 ++ b2 := not_mem_of_deeper r (by simp only [PyData.depth]; omega) hb
    refine ⟨⟨_, r⟩, a :: (b1 ++ b2), ReadAtMost.cons r (by simp only [PyData.depth]; omega) hb, ?_⟩
    simp only [PyData.depth, PyData.shown, PyData.shownKv_eq]
    exact ReprK.dict h1 h2.1 h3 hsys hna (ReprEntriesK.of_two es.toList _ _
      (k1.more_le (fun b hb => List.mem_append_left _ hb) (PyData.depthAll_keys_le KS)) (k2.more_le (fun b hb => List.mem_append_right _ hb) (PyData.depthAll_vals_le KS)))
theorem dpAll_shown {pins : List (Addr × Obj)} {s : Shared} {σ : L2.St} {H : Hp} (I : Inv X pins σ H s) : ∀ {vs : List V} {ds : List PyData}, DpAll X.K H vs ds → ∀ {us : List Value}, Vals vs us → PyData.showableAll ds = true → (∀ t ∈ PyData.shownAll ds, t.length ≤ sizeLine) →
    (∃ as, ReadsAll s.heap us ds as) ∧ ∃ bs, ReadAtMost s.heap (PyData.depthAll ds) bs ∧ ReprAllK X.prog X.w bs s.heap (PyData.depthAll ds) us (PyData.shownAll ds)
  | _, _, .nil, _, r, _, _ => by
    cases r
    exact ⟨⟨_, .nil⟩, [], (fun _ h => nomatch h), by simp only [PyData.shownAll]; exact .nil⟩
  | _, _, .cons (d := d) (ds := ds) h t, _, r, hs, hz => by
    cases r with
    | cons r1 r2 =>
      have hs' : d.showable = true ∧ PyData.showableAll ds = true := by simpa [PyData.showableAll] using hs
      obtain ⟨⟨as, q1⟩, b1, hb1, k1⟩ := dp_shown I h r1 hs'.1 (hz _ (by simp only [PyData.shownAll]; exact List.mem_cons_self ..))
      obtain ⟨⟨cs, q2⟩, b2, hb2, k2⟩ := dpAll_shown I t r2 hs'.2 (fun t ht => hz t (by simp only [PyData.shownAll]; exact List.mem_cons_of_mem _ ht))
      refine ⟨⟨_, .cons q1 q2⟩, b1 ++ b2, ?_, ?_⟩
      · intro b hm
        simp only [PyData.depthAll]
        rcases List.mem_append.mp hm with hm | hm
        · obtain ⟨d', as', r', hd'⟩ := hb1 b hm
          exact ⟨d', as', r', Nat.le_trans hd' (Nat.le_max_left _ _)⟩
        · obtain ⟨d', as', r', hd'⟩ := hb2 b hm
          exact ⟨d', as', r', Nat.le_trans hd' (Nat.le_max_right _ _)⟩
      · simp only [PyData.depthAll, PyData.shownAll]
        exact .cons ((k1.more fun b hb => List.mem_append_left _ hb).level_le (Nat.le_max_left _ _)) (k2.more_le (fun b hb => List.mem_append_right _ hb) (Nat.le_max_right _ _))
end
def rRepr (K : PySem.W.Frag) : List V → Hp → VK → Prop := fun xs H Q => ∃ v d, xs = [v] ∧ Dp K H v d ∧ d.showable = true ∧ d.depth ≤ 60 ∧ d.shown.length ≤ sizeLine ∧ Q (.str d.shown) H
theorem cr_repr (hg : X.A.guards = some []) (hu : X.A.units + 64 < cLine) : CallR X (.builtin "repr") (rRepr X.K) := by
  intro pins s σ H xs us Q I r h
  obtain ⟨v, d, rfl, hd, h1, h2, h3, q⟩ := h
  obtain ⟨u, rfl, ru⟩ := vals1 r
  cases hd with
  | non =>
    cases ru
    exact PySem.P.repr_of_none ⟨.str _, H, I.tok _, ⟨_, rfl⟩, q⟩
  | bl b =>
    cases ru
    exact PySem.P.repr_of_bool ⟨.str _, H, I.tok _, ⟨_, rfl⟩, by cases b <;> exact q⟩
  | int i =>
    obtain ⟨t, rfl⟩ := ru
    exact PySem.P.repr_of_int (of_decide_eq_true h1) ⟨.str _, H, I.tok _, ⟨_, rfl⟩, q⟩
  | str x =>
    obtain ⟨t, rfl⟩ := ru
    exact PySem.P.repr_of_str ⟨.str _, H, I.tok _, ⟨_, rfl⟩, q⟩ h3
  | lst hs ha =>
    rename_i a vs xs
    cases ru
    obtain ⟨its, rv, ⟨o, n, g1, g2, _, g3⟩, _⟩ := I.list hs
    have hz' : (listText (PyData.shownAll xs)).length ≤ sizeLine := by simpa only [PyData.shown] using h3
    obtain ⟨⟨as, g4⟩, bs, hb, hk⟩ := dpAll_shown I ha rv (by simpa [PyData.showable] using h1) (fun t ht => Nat.le_trans (listText_mem_le ht) hz')
    have hna : a ∉ bs := not_mem_of_deeper (.list g1 g2 g3 g4) (by simp only [PyData.depth]; omega) hb
    have hq : ∀ h' u tk, (∀ b o, s.heap.get? b = some o → h'.get? b = some o) → ∃ x t, Value.str (listText (PyData.shownAll xs)) u = .str x t ∧ ∃ y H1, Inv X pins σ H1 { s with heap := h', toks := tk } ∧ RelV y (Value.str (listText (PyData.shownAll xs)) u) ∧ Q y H1 := fun h' u tk hk => ⟨_, _, rfl, .str _, H, I.kept hk, ⟨_, rfl⟩, by simpa only [PyData.shown] using q⟩
    refine call_repr_slot (by omega) ⟨o, g1, g2⟩ PySem.F.slot_list_repr.toG ?_
    cases its with
    | nil =>
      cases g4
      simp only [PyData.shownAll, listText_nil] at hq
      exact call_list_repr_empty ⟨o, g1, g2⟩ g1 g3 (hq s.heap _ _ fun _ _ e => e)
    | cons x l =>
      simp only [PyData.depth] at h2
      exact call_list_reprK g1 g2 g3 hna (by simpa using hk.length_eq) (fun i y e => hk.item i y (by simpa using e)) hg (fun b _ => Clear.nil b) (by show X.A.units + 1 + _ < cLine; omega) (fun _ _ e => e) hq hz'
  | tup hs ha =>
    rename_i a vs xs
    cases ru
    obtain ⟨its, rv, ⟨o, g1, g2, n, g3⟩, _⟩ := I.tuple hs
    have hz' : (tupleText (PyData.shownAll xs)).length ≤ sizeLine := by simpa only [PyData.shown] using h3
    obtain ⟨⟨as, g4⟩, bs, hb, hk⟩ := dpAll_shown I ha rv (by simpa [PyData.showable] using h1) (fun t ht => Nat.le_trans (tupleText_mem_le ht) hz')
    have hna : a ∉ bs := not_mem_of_deeper (.tuple g1 g2 g3 g4) (by simp only [PyData.depth]; omega) hb
    have hq : ∀ h' u tk, (∀ b o, s.heap.get? b = some o → h'.get? b = some o) → ∃ x t, Value.str (tupleText (PyData.shownAll xs)) u = .str x t ∧ ∃ y H1, Inv X pins σ H1 { s with heap := h', toks := tk } ∧ RelV y (Value.str (tupleText (PyData.shownAll xs)) u) ∧ Q y H1 := fun h' u tk hk => ⟨_, _, rfl, .str _, H, I.kept hk, ⟨_, rfl⟩, by simpa only [PyData.shown] using q⟩
    refine call_repr_slot (by omega) ⟨o, g1, g2⟩ PySem.F.slot_tuple_repr ?_
    simp only [PyData.depth] at h2
    exact call_tuple_reprK g1 g2 g3 hna hk hg (fun b _ => Clear.nil b) (by show X.A.units + 1 + _ < cLine; omega) (fun _ _ e => e) hq hz'
  | dct hs ha =>
    rename_i a kvs ds
    cases ru
    obtain ⟨_, hsys, vs, kv, o, es, ep, g1, g2, g3, _, pr, _⟩ := (show ObjOk X.prog X.w H s.heap a (.dK kvs) from I.hok a _ hs)
    obtain ⟨⟨as₁, q4⟩, rv⟩ := keys_reads (h := s.heap) pr kv
    have hl : kvs.length = ds.length := by simpa using ha.len
    have e1 : ((kvs.map fun kv => keyD kv.1).zip ds).map (·.1) = kvs.map fun kv => keyD kv.1 := List.map_fst_zip (by simp [hl])
    have e2 : ((kvs.map fun kv => keyD kv.1).zip ds).map (·.2) = ds := List.map_snd_zip (by simp [hl])
    generalize hgen : (kvs.map fun kv => keyD kv.1).zip ds = KS at *
    have hz' : (dictText (PyData.shownKv KS)).length ≤ sizeLine := by simpa only [PyData.shown] using h3
    obtain ⟨hs1, hs2⟩ := PyData.showableKv_split KS (by simpa [PyData.showable] using h1)
    rw [← e1] at q4
    obtain ⟨b1, hb1, k1⟩ := ReprAllK.of_readsAll (prog := X.prog) (w := X.w) q4 hs1 (fun hx => by rw [e1, keys_nodict] at hx; cases hx) (fun t ht => let ⟨p, hp, hl⟩ := PyData.shownKv_key_le KS t ht; Nat.le_trans hl (Nat.le_trans (dictText_mem_le hp) hz'))
    obtain ⟨⟨bs₁, q5⟩, b2, hb2, k2⟩ := dpAll_shown I ha rv (by rw [← e2]; exact hs2) (fun t ht => let ⟨p, hp, hl⟩ := PyData.shownKv_val_le KS t (by rw [e2]; exact ht); Nat.le_trans hl (Nat.le_trans (dictText_mem_le hp) hz'))
    rw [← e2] at q5 hb2 k2
    have r : Reads s.heap (.ref a) (.dict KS) _ := .dict g1 g2.1 g3 q4 q5
    have hb : ReadAtMost s.heap (PyData.depthKv KS) (b1 ++ b2) := (hb1.mono (PyData.depthAll_keys_le KS)).append (hb2.mono (PyData.depthAll_vals_le KS))
    have hna : a ∉ b1 ++ b2 := not_mem_of_deeper r (by simp only [PyData.depth]; omega) hb
    refine call_repr_slot (by omega) ⟨o, g1, g2.1⟩ PySem.F.slot_dict_repr ?_
    simp only [PyData.depth] at h2
    simp only [PyData.shown, PyData.shownKv_eq] at q
    exact call_dict_reprK g1 g2.1 g3 hsys hna (ReprEntriesK.of_two es.toList _ _
      (k1.more_le (fun b hb => List.mem_append_left _ hb) (PyData.depthAll_keys_le KS)) (k2.more_le (fun b hb => List.mem_append_right _ hb) (PyData.depthAll_vals_le KS))) hg (fun b _ => Clear.nil b) (by show X.A.units + 1 + _ < cLine; omega) (fun _ _ e => e)
      (fun h' u tk hk => ⟨_, _, rfl, .str _, H, I.kept hk, ⟨_, rfl⟩, q⟩) (by rw [← PyData.shownKv_eq]; exact hz')
/-- what repr can show -/
def shows (d : PyData) : Prop := d.showable = true ∧ d.depth ≤ 60 ∧ d.shown.length ≤ sizeLine
def rdRepr : List PyData → (PyData → Prop) → Prop := fun ds P => match ds with
  | [d] => shows d ∧ P (.str d.shown)
  | _ => False
theorem cd_repr {K : PySem.W.Frag} : CallD K (rRepr K) rdRepr := by
  intro E g env c σ H xs ds P Q r h q k
  unfold rdRepr at q
  split at q
  · cases h with
    | cons h1 t =>
      cases t
      exact ⟨_, _, rfl, dpF r h1, q.1.1, q.1.2.1, q.1.2.2, k _ g H _ q.2 (Mv.refl g H) r (.str _)⟩
  · exact q.elim
end
end DL
namespace DL
open PySem PySem.Spec PyProof.Rows L2

/-! ### tests -/
def boolK (d : PyData) (k : Bool → Prop) : Prop := match d with
  | .bool b => k b
  | _ => False
def tVal (da : DE) : DT := fun env c P => da env c fun x c1 => datK x fun d => boolK d fun b => P b c1
def tNt (t : DT) : DT := fun env c P => t env c fun b c1 => P (!b) c1
def tAn (t u : DT) : DT := fun env c P => t env c fun b c1 => if b = true then u env c1 P else P false c1
def tOo (t u : DT) : DT := fun env c P => t env c fun b c1 => if b = true then P true c1 else u env c1 P
def dNt (da : DE) : DE := fun env c P => da env c fun x c1 => datK x fun d => boolK d fun b => P (.dat (.bool (!b))) c1
def dAn (da db : DE) : DE := fun env c P => da env c fun x c1 => datK x fun d => boolK d fun b => if b = true then db env c1 P else P (.dat (.bool false)) c1
def dOo (da db : DE) : DE := fun env c P => da env c fun x c1 => datK x fun d => boolK d fun b => if b = true then P (.dat (.bool true)) c1 else db env c1 P
def dIfE (t : DT) (da db : DE) : DE := fun env c P => t env c fun b c1 => if b = true then da env c1 P else db env c1 P
abbrev DPW (X : Cx) (E : En) (e : Expr) (dt : DT) : Prop := PW X e (upT X.K E dt)
section
variable {X : Cx} {E : En} {a b : Expr} {da db : DE} {ta tb : DT} {pos : Pos} {rest : List Expr}
theorem dt_val (h : DPE X E a da) (he : ∀ whole, isTrue a X.env whole = (do let v ← whole; standAt a.pos; holding [v] (truthy v)) := by intro _; rfl) : DPT X E a (tVal da) := by
  refine pt_imp (pt_val h he) fun σ H Q h => ?_
  obtain ⟨g, env, c, P, rel, q, k⟩ := h
  refine ⟨g, env, c, _, rel, q, fun x c1 g1 H1 v p1 m1 r1 o1 f1 => ?_⟩
  cases x with
  | deck => exact p1.elim
  | exc _ => exact p1.elim
  | own l => exact p1.elim
  | dat d =>
    cases d <;> try exact p1.elim
    exact ⟨_, dp_bl o1, k _ _ g1 H1 p1 m1 r1⟩
theorem dt_not (h : DPT X E a ta) : DPT X E (.UnaryOp .Not a pos) (tNt ta) := by
  refine pt_imp (pt_not h) fun σ H Q h => ?_
  obtain ⟨g, env, c, P, rel, q, k⟩ := h
  exact ⟨g, env, c, _, rel, q, fun x c1 g1 H1 p1 m1 r1 => k _ _ g1 H1 p1 m1 r1⟩
theorem dw_and1 (h : DPT X E a ta) : DPW X E (.BoolOp .And [a] pos) ta := pw_and1 h
theorem dw_or1 (h : DPT X E a ta) : DPW X E (.BoolOp .Or [a] pos) ta := pw_or1 h
theorem dw_and (h : DPT X E a ta) (h2 : DPW X E (.BoolOp .And (b :: rest) pos) tb) : DPW X E (.BoolOp .And (a :: b :: rest) pos) (tAn ta tb) := by
  refine pw_imp (pw_and h h2) fun σ H Q h => ?_
  obtain ⟨g, env, c, P, rel, q, k⟩ := h
  refine ⟨g, env, c, _, rel, q, fun x c1 g1 H1 p1 m1 r1 => ?_⟩
  cases x with
  | true => exact iteT ⟨g1, env, c1, _, r1, p1, fun y c2 g2 H2 p2 m2 r2 => k _ _ g2 H2 p2 (m1.trans m2) r2⟩
  | false => exact iteF (k _ _ g1 H1 p1 m1 r1)
theorem dw_or (h : DPT X E a ta) (h2 : DPW X E (.BoolOp .Or (b :: rest) pos) tb) : DPW X E (.BoolOp .Or (a :: b :: rest) pos) (tOo ta tb) := by
  refine pw_imp (pw_or h h2) fun σ H Q h => ?_
  obtain ⟨g, env, c, P, rel, q, k⟩ := h
  refine ⟨g, env, c, _, rel, q, fun x c1 g1 H1 p1 m1 r1 => ?_⟩
  cases x with
  | true => exact iteT (k _ _ g1 H1 p1 m1 r1)
  | false => exact iteF ⟨g1, env, c1, _, r1, p1, fun y c2 g2 H2 p2 m2 r2 => k _ _ g2 H2 p2 (m1.trans m2) r2⟩
theorem dt_w (h : DPW X E a ta) : DPT X E a ta := PW.pt h
theorem de_not (h : DPE X E a da) : DPE X E (.UnaryOp .Not a pos) (dNt da) := by
  refine pe_imp (pe_not h) fun σ H Q h => ?_
  obtain ⟨g, env, c, P, rel, q, k⟩ := h
  refine ⟨g, env, c, _, rel, q, fun x c1 g1 H1 v p1 m1 r1 o1 f1 => ?_⟩
  cases x with
  | deck => exact p1.elim
  | exc _ => exact p1.elim
  | own l => exact p1.elim
  | dat d =>
    cases d <;> try exact p1.elim
    exact ⟨_, dp_bl o1, k _ _ g1 H1 _ p1 m1 r1 (.bl _) trivial⟩
theorem de_one {op} (h : DPE X E a da) : DPE X E (.BoolOp op [a] pos) da := pe_one h
theorem de_and (h : DPE X E a da) (h2 : DPE X E (.BoolOp .And (b :: rest) pos) db) : DPE X E (.BoolOp .And (a :: b :: rest) pos) (dAn da db) := by
  refine pe_imp (pe_and h h2) fun σ H Q h => ?_
  obtain ⟨g, env, c, P, rel, q, k⟩ := h
  refine ⟨g, env, c, _, rel, q, fun x c1 g1 H1 v p1 m1 r1 o1 f1 => ?_⟩
  cases x with
  | deck => exact p1.elim
  | exc _ => exact p1.elim
  | own l => exact p1.elim
  | dat d =>
    cases d <;> try exact p1.elim
    rename_i bb
    refine ⟨bb, dp_bl o1, ?_⟩
    cases bb with
    | true => exact iteT ⟨g1, env, c1, _, r1, p1, fun y c2 g2 H2 v2 p2 m2 r2 o2 f2 => k _ _ g2 H2 v2 p2 (m1.trans m2) r2 o2 f2⟩
    | false => exact iteF (k _ _ g1 H1 _ p1 m1 r1 (.bl _) trivial)
theorem de_or (h : DPE X E a da) (h2 : DPE X E (.BoolOp .Or (b :: rest) pos) db) : DPE X E (.BoolOp .Or (a :: b :: rest) pos) (dOo da db) := by
  refine pe_imp (pe_or h h2) fun σ H Q h => ?_
  obtain ⟨g, env, c, P, rel, q, k⟩ := h
  refine ⟨g, env, c, _, rel, q, fun x c1 g1 H1 v p1 m1 r1 o1 f1 => ?_⟩
  cases x with
  | deck => exact p1.elim
  | exc _ => exact p1.elim
  | own l => exact p1.elim
  | dat d =>
    cases d <;> try exact p1.elim
    rename_i bb
    refine ⟨bb, dp_bl o1, ?_⟩
    cases bb with
    | true => exact iteT (k _ _ g1 H1 _ p1 m1 r1 (.bl _) trivial)
    | false => exact iteF ⟨g1, env, c1, _, r1, p1, fun y c2 g2 H2 v2 p2 m2 r2 o2 f2 => k _ _ g2 H2 v2 p2 (m1.trans m2) r2 o2 f2⟩
theorem de_ifE {t : Expr} (ht : DPT X E t ta) (h : DPE X E a da) (h2 : DPE X E b db) : DPE X E (.IfExp t a b pos) (dIfE ta da db) := by
  refine pe_imp (pe_ifExp ht h h2) fun σ H Q h => ?_
  obtain ⟨g, env, c, P, rel, q, k⟩ := h
  refine ⟨g, env, c, _, rel, q, fun x c1 g1 H1 p1 m1 r1 => ?_⟩
  cases x with
  | true => exact iteT ⟨g1, env, c1, _, r1, p1, fun y c2 g2 H2 v2 p2 m2 r2 o2 f2 => k _ _ g2 H2 v2 p2 (m1.trans m2) r2 o2 f2⟩
  | false => exact iteF ⟨g1, env, c1, _, r1, p1, fun y c2 g2 H2 v2 p2 m2 r2 o2 f2 => k _ _ g2 H2 v2 p2 (m1.trans m2) r2 o2 f2⟩
end

/-! ### slots -/
theorem set_get {α : Type} {l : List (Option α)} {i j : Nat} {x y : α} (h : (l.set i (some x))[j]? = some (some y)) : (j = i ∧ i < l.length ∧ y = x) ∨ (j ≠ i ∧ l[j]? = some (some y)) := by
  by_cases e : j = i
  · subst e
    by_cases hl : j < l.length
    · rw [List.getElem?_set_self hl] at h
      exact .inl ⟨rfl, hl, (Option.some.inj (Option.some.inj h)).symm⟩
    · rw [List.getElem?_eq_none (by simpa using hl)] at h
      cases h
  · rw [List.getElem?_set_ne (Ne.symm e)] at h
    exact .inr ⟨e, h⟩
section
variable {K : PySem.W.Frag} {E : En} {g g' : Gh} {env env' : Ev} {c c' : Nat} {σ σ' : L2.St} {H H' : Hp}
theorem Rel.set (r : Rel K E g env c σ H) (i : Nat) {v : V} {x : Vl} (h : VOk K g H v x) (hf : free x) : Rel K E g (env.set i (some x)) c (σ.set i (some v)) H := by
  have notown : ∀ l, x ≠ .own l := fun l e => by
    subst e
    exact hf
  have key : ∀ (j : Nat) (l : List PyData), (env.set i (some x))[j]? = some (some (Vl.own l)) → j ≠ i ∧ env[j]? = some (some (Vl.own l)) := fun j l e => by
    rcases set_get e with ⟨_, _, e⟩ | e
    · exact absurd e.symm (notown l)
    · exact e
  refine ⟨r.mo, r.md, r.mt, r.dn, r.nf, r.fr, fun j l e a ea => ?_, r.ex, fun j y e => ?_, fun j k lj lk a ne e1 e2 e3 e4 => ?_, r.dk, by simpa using r.len⟩
  · obtain ⟨ne, e1⟩ := key j l e
    rw [List.getElem?_set_ne (Ne.symm ne)] at ea
    exact r.nw j l e1 a ea
  · rcases set_get e with ⟨rfl, hl, rfl⟩ | ⟨ne, e1⟩
    · exact ⟨v, by rw [List.getElem?_set_self (by rw [← r.len]; exact hl)], h⟩
    · obtain ⟨u, h1, h2⟩ := r.sl j y e1
      exact ⟨u, by rw [List.getElem?_set_ne (Ne.symm ne)]; exact h1, h2⟩
  · obtain ⟨n1, f1⟩ := key j lj e1
    obtain ⟨n2, f2⟩ := key k lk e2
    rw [List.getElem?_set_ne (Ne.symm n1)] at e3
    rw [List.getElem?_set_ne (Ne.symm n2)] at e4
    exact r.ap j k lj lk a ne f1 f2 e3 e4
/-- behind a block: the slots as they were -/
theorem Rel.back (r : Rel K E g env c σ H) (r' : Rel K E g' env' c' σ' H') (m : Mv g H g' H') : Rel K E g' env c' σ H' := by
  refine ⟨r'.mo, r'.md, r'.mt, r'.dn, r'.nf, r'.fr, r.nw, r'.ex, fun i x e => ?_, r.ap, r'.dk, r.len⟩
  obtain ⟨v, h1, h2⟩ := r.sl i x e
  refine ⟨v, h1, ?_⟩
  cases x with
  | dat d => exact dp_mono m.f h2
  | exc _ => exact h2
  | deck =>
    obtain ⟨p, q, e, z⟩ := h2
    exact ⟨p, q, by rw [m.d]; exact e, z⟩
  | own l =>
    obtain ⟨a, xs, rfl, h3, h4, h5, h6⟩ := h2
    refine ⟨a, xs, rfl, ?_, fun z => h4 (m.toMo.isDk z), m.fr a _ h5 h4, dpAll_mono m.f h6⟩
    cases q : g'.F a with
    | none => rfl
    | some o =>
      rcases m.nf a o q with w | w
      · rw [h3] at w
        cases w
      · rw [h5] at w
        cases w
def wipeE (env : Ev) : List Nat → Ev
  | [] => env
  | v :: vs => (wipeE env vs).set v none
theorem wipeE_len : ∀ vs : List Nat, (wipeE env vs).length = env.length
  | [] => rfl
  | v :: vs => by
    unfold wipeE
    rw [List.length_set, wipeE_len vs]
theorem wipeE_some {i : Nat} {x : Vl} : ∀ {vs : List Nat}, (wipeE env vs)[i]? = some (some x) → env[i]? = some (some x) ∧ i ∉ vs
  | [], h => ⟨h, by simp⟩
  | v :: vs, h => by
    unfold wipeE at h
    by_cases hi : v = i
    · subst hi
      by_cases hv : v < (wipeE env vs).length
      · rw [List.getElem?_set_self hv] at h; cases h
      · rw [List.getElem?_eq_none (by simpa using hv)] at h; cases h
    · rw [List.getElem?_set_ne hi] at h
      obtain ⟨h1, h2⟩ := wipeE_some h
      exact ⟨h1, by simp only [List.mem_cons, not_or]; exact ⟨fun e => hi e.symm, h2⟩⟩
theorem wipe_out {i : Nat} : ∀ {vs : List Nat}, i ∉ vs → (wipe σ vs)[i]? = σ[i]?
  | [], _ => rfl
  | v :: vs, h => by
    unfold wipe
    rw [List.getElem?_set_ne (fun e => h (by rw [e]; exact List.mem_cons_self)), wipe_out fun z => h (List.mem_cons_of_mem _ z)]
theorem wipe_in {i : Nat} : ∀ {vs : List Nat}, i ∈ vs → i < σ.length → (wipe σ vs)[i]? = some none
  | [], h, _ => by cases h
  | v :: vs, h, hl => by
    unfold wipe
    by_cases e : v = i
    · subst e
      rw [List.getElem?_set_self (by rw [wipe_length]; exact hl)]
    · rw [List.getElem?_set_ne e]
      exact wipe_in ((List.mem_cons.mp h).resolve_left fun z => e z.symm) hl
theorem Rel.wipe (r : Rel K E g env c σ H) (vs : List Nat) : Rel K E g (wipeE env vs) c (L2.wipe σ vs) H := by
  refine ⟨r.mo, r.md, r.mt, r.dn, r.nf, r.fr, fun i l e a ea => ?_, r.ex, fun i x e => ?_, fun i j li lj a ne e1 e2 e3 e4 => ?_, r.dk, by rw [wipeE_len, wipe_length]; exact r.len⟩
  · obtain ⟨e1, n1⟩ := wipeE_some e
    rw [wipe_out n1] at ea
    exact r.nw i l e1 a ea
  · obtain ⟨e1, n1⟩ := wipeE_some e
    rw [wipe_out n1]
    exact r.sl i x e1
  · obtain ⟨f1, n1⟩ := wipeE_some e1
    obtain ⟨f2, n2⟩ := wipeE_some e2
    rw [wipe_out n1] at e3
    rw [wipe_out n2] at e4
    exact r.ap i j li lj a ne f1 f2 e3 e4
theorem ag_wipe {ws vs : List Nat} (h : Ag ws (wipe σ vs) σ') (hs : ∀ i ∈ ws, i ∈ vs) : wipe σ' vs = wipe σ vs := by
  have hl : σ'.length = σ.length := by rw [h.1, wipe_length]
  apply List.ext_getElem?
  intro i
  by_cases hv : i ∈ vs
  · by_cases hi : i < σ.length
    · rw [wipe_in hv hi, wipe_in hv (by rw [hl]; exact hi)]
    · rw [List.getElem?_eq_none (by rw [wipe_length, hl]; omega), List.getElem?_eq_none (by rw [wipe_length]; omega)]
  · rw [wipe_out hv, h.2 i fun z => hv (hs i z)]
end

/-! ### targets -/
def gNm (i : Nat) : DG := fun x env k => k (env.set i (some x))
def gsNil : DGs := fun ds env k => match ds with
  | [] => k env
  | _ => False
def gsCons (t : DG) (u : DGs) : DGs := fun ds env k => match ds with
  | d :: r => t (.dat d) env fun env' => u r env' k
  | [] => False
def gTu (n : Nat) (u : DGs) : DG := fun x env k => datK x fun d => match d with
  | .tuple ds => ds.length = n ∧ u ds env k
  | _ => False
section
variable {X : Cx} {E : En} {pos : Pos}
theorem dg_name (i : Nat) {x : Str} (hN : X.N.Nodup) (hi : X.N[i]? = some x := by rfl) (hx : Loc X.env.scope x := by first | exact Or.inl rfl | exact Or.inr rfl) (hf : X.fn x = true ∨ X.env.scope.names.lookup x = some .local := by first | exact .inl rfl | exact .inr rfl | assumption) : DPG X E [i] (.Name x pos) (gNm i) := by
  refine pg_imp (pg_name hN hi hx hf) fun v σ H Q h => ?_
  obtain ⟨g, env, c, x, P, rel, o, f, q, k⟩ := h
  exact k _ g _ H q (Mv.refl g H) (rel.set i o f) ⟨by simp, fun j hj => List.getElem?_set_ne fun e => hj (by simp [e])⟩
theorem dgs_nil : DPGs X E [] [] gsNil := by
  refine ⟨fun pins s σ H vs us Q I r h => pgs_nil.run pins s σ H vs us Q I r ?_⟩
  obtain ⟨g, env, c, ds, P, rel, o, q, k⟩ := h
  cases ds with
  | cons d r => exact q.elim
  | nil =>
    cases o
    exact ⟨rfl, k _ g _ H q (Mv.refl g H) rel ⟨rfl, fun _ _ => rfl⟩⟩
theorem dgs_cons {e : Expr} {es : List Expr} {t : DG} {u : DGs} {ws vs : List Nat} (h1 : DPG X E ws e t) (h2 : DPGs X E vs es u)
    (h3 : (assignEach (e :: es) X.env).map (·.2) = assign e X.env :: (assignEach es X.env).map (·.2) := by rfl) : DPGs X E (ws ++ vs) (e :: es) (gsCons t u) := by
  refine ⟨fun pins s σ H vs' us Q I r h => (pgs_cons h1 h2 h3).run pins s σ H vs' us Q I r ?_⟩
  obtain ⟨g, env, c, ds, P, rel, o, q, k⟩ := h
  cases ds with
  | nil => exact q.elim
  | cons d rr =>
    cases o with
    | cons o1 o2 =>
      refine ⟨_, _, rfl, g, env, c, .dat d, _, rel, o1, trivial, q, fun env1 g1 σ1 H1 p1 m1 r1 a1 => ⟨g1, env1, c, rr, _, r1, dpAll_mono m1.f o2, p1, fun env2 g2 σ2 H2 p2 m2 r2 a2 => k _ g2 σ2 H2 p2 (m1.trans m2) r2 ⟨a2.1.trans a1.1, fun i hi => ?_⟩⟩⟩
      rw [List.mem_append, not_or] at hi
      rw [a2.2 i hi.2, a1.2 i hi.1]
theorem dg_tup {es : List Expr} {kk : Nat} {t : DGs} {n : Nat} {ws : List Nat} (h : DPGs X E ws es t) (hc : X.calm = true := by rfl)
    (hn : (assignEach es X.env).length = n := by rfl) (hst : (assignEach es X.env).findIdx? (·.1) = none := by rfl) : DPG X E ws (.Tuple es kk pos) (gTu n t) := by
  refine pg_imp (pg_tup hc h hn hst) fun v σ H Q h => ?_
  obtain ⟨g, env, c, x, P, rel, o, f, q, k⟩ := h
  cases x with
  | deck => exact q.elim
  | exc _ => exact q.elim
  | own l => exact f.elim
  | dat d =>
    cases d <;> try exact q.elim
    rename_i ds
    have o : Dp X.K g.F v (.tuple ds) := o
    cases o with
    | tup hs ha => exact ⟨_, _, rfl, seqT rel.ex hs, (DpAll.len ha).trans q.1, g, env, c, ds, _, rel, ha, q.2, k⟩
end
end DL
namespace DL
open PySem PySem.Spec PyProof.Rows L2
/-! ### comparisons as tests -/
section
variable {X : Cx} {E : En} {a b : Expr} {da db : DE} {pos : Pos}
theorem tB_up {K : PySem.W.Frag} {t : TE} (i : ∀ σ H Q, up K E da σ H Q → t σ H Q) {σ : L2.St} {H : Hp} {Q : Bool → Hp → Prop} (h : upT K E (tVal da) σ H Q) : tB t σ H Q := by
  obtain ⟨g, env, c, P, rel, q, k⟩ := h
  refine i σ H _ ⟨g, env, c, _, rel, q, fun x c1 g1 H1 v p1 m1 r1 o1 f1 => ?_⟩
  cases x with
  | deck => exact p1.elim
  | exc _ => exact p1.elim
  | own l => exact p1.elim
  | dat d =>
    cases d <;> try exact p1.elim
    exact ⟨_, dp_bl o1, k _ _ g1 H1 p1 m1 r1⟩
theorem dt_cmp {op : CmpOp} {r : R2} {rd : PyData → PyData → (PyData → Prop) → Prop} (ho : OpR X (compareOp op) r) (hd : OpD X.K r rd) (ha : DPE X E a da) (hb : DPE X E b db) (hm : behindInMarks op b = false := by first | exact nobehind _ (by decide) (by decide) | rfl) :
    DPT X E (.Compare a [op] [b] pos) (tVal (dOp rd da db)) := pt_imp (pt_cmpR ho ha hb hm) fun _ _ _ h => tB_up (fun _ _ _ h => op_up hd h) h
theorem dt_lt (ha : DPE X E a da) (hb : DPE X E b db) : DPT X E (.Compare a [.Lt] [b] pos) (tVal (dOp rdLt da db)) := dt_cmp op_lt (opd_I0 fun _ _ _ _ => .bl _) ha hb
theorem dt_le (ha : DPE X E a da) (hb : DPE X E b db) : DPT X E (.Compare a [.LtE] [b] pos) (tVal (dOp rdLe da db)) := dt_cmp op_le (opd_I0 fun _ _ _ _ => .bl _) ha hb
theorem dt_gt (ha : DPE X E a da) (hb : DPE X E b db) : DPT X E (.Compare a [.Gt] [b] pos) (tVal (dOp rdGt da db)) := dt_cmp op_gt (opd_I0 fun _ _ _ _ => .bl _) ha hb
theorem dt_ge (ha : DPE X E a da) (hb : DPE X E b db) : DPT X E (.Compare a [.GtE] [b] pos) (tVal (dOp rdGe da db)) := dt_cmp op_ge (opd_I0 fun _ _ _ _ => .bl _) ha hb
theorem dt_eq {k : Nat} (hr : Room k X.A) (ha : DPE X E a da) (hb : DPE X E b db) : DPT X E (.Compare a [.Eq] [b] pos) (tVal (dOp rdEq da db)) := dt_cmp (op_or op_eq (op_eqD hr.units)) opd_eq ha hb
theorem dt_ne {k : Nat} (hr : Room k X.A) (ha : DPE X E a da) (hb : DPE X E b db) : DPT X E (.Compare a [.NotEq] [b] pos) (tVal (dOp rdNe da db)) := dt_cmp (op_or op_ne (op_neD hr.units)) opd_ne ha hb
theorem isN_up {K : PySem.W.Frag} {σ : L2.St} {H : Hp} {Q : VK} (h : up K E (dUn rdIsN da) σ H Q) : tIsN (up K E da) σ H Q := by
  obtain ⟨g, env, c, P, rel, q, k⟩ := h
  refine ⟨g, env, c, _, rel, q, fun x c1 g1 H1 v p1 m1 r1 o1 f1 => ?_⟩
  cases x with
  | deck => exact p1.elim
  | exc _ => exact p1.elim
  | own l => exact p1.elim
  | dat d =>
    rcases dp_isN o1 with ⟨rfl, rfl⟩ | ⟨n1, n2⟩
    · exact k _ _ g1 H1 (.bl (decide (V.non = .non))) p1 m1 r1 (.bl _) trivial
    · have p1' : P (.dat (.bool false)) c1 := by
        cases d <;> first | exact absurd rfl n1 | exact p1
      rw [decide_eq_false n2]
      exact k _ _ g1 H1 (.bl false) p1' m1 r1 (.bl _) trivial
theorem notN_up {K : PySem.W.Frag} {σ : L2.St} {H : Hp} {Q : VK} (h : up K E (dUn rdNotN da) σ H Q) : tNotN (up K E da) σ H Q := by
  obtain ⟨g, env, c, P, rel, q, k⟩ := h
  refine ⟨g, env, c, _, rel, q, fun x c1 g1 H1 v p1 m1 r1 o1 f1 => ?_⟩
  cases x with
  | deck => exact p1.elim
  | exc _ => exact p1.elim
  | own l => exact p1.elim
  | dat d =>
    rcases dp_isN o1 with ⟨rfl, rfl⟩ | ⟨n1, n2⟩
    · exact k _ _ g1 H1 (.bl (!decide (V.non = .non))) p1 m1 r1 (.bl _) trivial
    · have p1' : P (.dat (.bool true)) c1 := by
        cases d <;> first | exact absurd rfl n1 | exact p1
      rw [decide_eq_false n2]
      exact k _ _ g1 H1 (.bl true) p1' m1 r1 (.bl _) trivial
theorem dt_isN {j} {p2 : Pos} (ha : DPE X E a da) : DPT X E (.Compare a [.Is] [.Constant .none j p2] pos) (tVal (dUn rdIsN da)) := pt_imp (pt_cmp (pc_isN ha) rfl) fun _ _ _ h => tB_up (fun _ _ _ h => isN_up h) h
theorem dt_notN {j} {p2 : Pos} (ha : DPE X E a da) : DPT X E (.Compare a [.IsNot] [.Constant .none j p2] pos) (tVal (dUn rdNotN da)) := pt_imp (pt_cmp (pc_notN ha) rfl) fun _ _ _ h => tB_up (fun _ _ _ h => notN_up h) h
end
end DL
namespace DL
open PySem PySem.Spec PyProof.Rows L2

/-! ### statements -/
def sNx : DS := fun D env c => D.nx env c
def sSeq (s t : DS) : DS := fun D env c => s { D with nx := t D } env c
def sRet (da : DE) : DS := fun D env c => da env c D.rt
def sRetN : DS := fun D _ c => D.rt (.dat .none) c
def sAsg (da : DE) (dg : DG) : DS := fun D env c => da env c fun x c1 => dg x env fun env' => D.nx env' c1
def sIf (t : DT) (s u : DS) : DS := fun D env c => t env c fun b c1 => if b = true then s D env c1 else u D env c1
def sDrop (da : DE) : DS := fun D env c => da env c fun _ c1 => D.nx env c1
def sBrk : DS := fun D env c => D.bk env c
def sCnt : DS := fun D env c => D.ct env c
section
variable {X : Cx} {E : En} {st : Stmt} {rest : List Stmt} {t u : DS} {a : Expr} {da : DE} {pos : Pos}
theorem ds_nil : DPSs X E [] sNx := by
  refine pss_imp pss_nil fun D σ H h => ?_
  obtain ⟨g, env, c, P, rel, q, k, _⟩ := h
  exact k _ _ g σ H q (Same.refl _) rel
theorem ds_pass : DPS X E (.Pass pos) sNx := by
  refine ps_imp ps_pass fun D σ H h => ?_
  obtain ⟨g, env, c, P, rel, q, k, _⟩ := h
  exact k _ _ g σ H q (Same.refl _) rel
theorem ds_brk : DPS X E (.Break pos) sBrk := by
  refine ps_imp ps_break fun D σ H h => ?_
  obtain ⟨g, env, c, P, rel, q, _, _, k, _⟩ := h
  exact k _ _ g σ H q (Same.refl _) rel
theorem ds_cnt : DPS X E (.Continue pos) sCnt := by
  refine ps_imp ps_continue fun D σ H h => ?_
  obtain ⟨g, env, c, P, rel, q, _, _, _, k⟩ := h
  exact k _ _ g σ H q (Same.refl _) rel
theorem ds_cons (h1 : DPS X E st t) (h2 : DPSs X E rest u) : DPSs X E (st :: rest) (sSeq t u) := by
  refine pss_imp (pss_cons h1 h2) fun D σ H h => ?_
  obtain ⟨g, env, c, P, rel, q, k1, k2, k3, k4⟩ := h
  refine ⟨g, env, c, _, rel, q, fun env1 c1 g1 σ1 H1 p1 m1 r1 => ⟨g1, env1, c1, P, r1, p1, fun env2 c2 g2 σ2 H2 p2 m2 r2 => k1 env2 c2 g2 σ2 H2 p2 (m1.trans m2) r2, fun x c2 env2 g2 σ2 H2 v p2 m2 r2 => k2 x c2 env2 g2 σ2 H2 v p2 (m1.trans m2) r2,
    fun env2 c2 g2 σ2 H2 p2 m2 r2 => k3 env2 c2 g2 σ2 H2 p2 (m1.trans m2) r2, fun env2 c2 g2 σ2 H2 p2 m2 r2 => k4 env2 c2 g2 σ2 H2 p2 (m1.trans m2) r2⟩, k2, k3, k4⟩
theorem ds_one (h1 : DPS X E st t) : DPSs X E [st] t := pss_one h1
theorem ds_ret (h : DPE X E a da) : DPS X E (.Return (some a) pos) (sRet da) := by
  refine ps_imp (ps_ret h) fun D σ H h => ?_
  obtain ⟨g, env, c, P, rel, q, _, k, _⟩ := h
  exact ⟨g, env, c, _, rel, q, fun x c1 g1 H1 v p1 m1 r1 o1 f1 => k x c1 env g1 σ H1 v p1 m1.f r1 o1 f1⟩
theorem ds_retN : DPS X E (.Return none pos) sRetN := by
  refine ps_imp ps_retN fun D σ H h => ?_
  obtain ⟨g, env, c, P, rel, q, _, k, _⟩ := h
  exact k _ c env g σ H .non q (Same.refl _) rel .non trivial
theorem asg_up {K : PySem.W.Frag} {ws : List Nat} {dg : DG} {D : Ends} {σ : L2.St} {H : Hp} (h : upS K E (sAsg da dg) D σ H) : tAsg (up K E da) (upG K E ws dg) D σ H := by
  obtain ⟨g, env, c, P, rel, q, k, _⟩ := h
  exact ⟨g, env, c, _, rel, q, fun x c1 g1 H1 v p1 m1 r1 o1 f1 => ⟨g1, env, c1, x, _, r1, o1, f1, p1, fun env2 g2 σ2 H2 p2 m2 r2 _ => k env2 c1 g2 σ2 H2 p2 (m1.f.trans m2.f) r2⟩⟩
theorem asgN_up {K : PySem.W.Frag} {i : Nat} {D : Ends} {σ : L2.St} {H : Hp} (h : upS K E (sAsg da (gNm i)) D σ H) : tAsg (up K E da) (gName i) D σ H := by
  obtain ⟨g, env, c, P, rel, q, k, _⟩ := h
  exact ⟨g, env, c, _, rel, q, fun x c1 g1 H1 v p1 m1 r1 o1 f1 => k _ c1 g1 _ H1 p1 m1.f (r1.set i o1 f1)⟩
/-- x = e -/
theorem ds_set (i : Nat) {x : Str} {p2 : Pos} (hN : X.N.Nodup) (h : DPE X E a da) (hi : X.N[i]? = some x := by rfl) (hx : Loc X.env.scope x := by first | exact Or.inl rfl | exact Or.inr rfl) (hs : swapsWith a (some (.Name x p2)) pos.line X.env = pure false := by rfl) (hf : X.fn x = true ∨ X.env.scope.names.lookup x = some .local := by first | exact .inl rfl | exact .inr rfl | assumption) :
    DPS X E (.Assign [.Name x p2] a pos) (sAsg da (gNm i)) := ps_imp (ps_set hN hi hx h hs hf) fun _ _ _ h => asgN_up h
/-- target = e -/
theorem ds_asg {tg : Expr} {ws : List Nat} {dg : DG} (h : DPE X E a da) (hg : DPG X E ws tg dg) (hs : swapsWithSole [tg] a pos.line X.env = pure false := by rfl) (hw : swappedStores [tg] a X.env = pure none := by rfl)
    (h1 : (assignEach [tg] X.env).map (·.2) = [assign tg X.env] := by rfl) : DPS X E (.Assign [tg] a pos) (sAsg da dg) := ps_imp (ps_asg h hg hs hw h1) fun _ _ _ h => asg_up h
theorem ds_if {tt : DT} {s1 s2 : List Stmt} (h : DPT X E a tt) (h1 : DPSs X E s1 t) (h2 : DPSs X E s2 u) : DPS X E (.If a s1 s2 pos) (sIf tt t u) := by
  refine ps_imp (ps_if h h1 h2) fun D σ H h => ?_
  obtain ⟨g, env, c, P, rel, q, k1, k2, k3, k4⟩ := h
  refine ⟨g, env, c, _, rel, q, fun b c1 g1 H1 p1 m1 r1 => ?_⟩
  have fin : ∀ {w : DS}, w P env c1 → upS X.K E w D σ H1 := fun {w} p => ⟨g1, env, c1, P, r1, p, fun env2 c2 g2 σ2 H2 p2 m2 r2 => k1 env2 c2 g2 σ2 H2 p2 (m1.f.trans m2) r2, fun x c2 env2 g2 σ2 H2 v p2 m2 r2 => k2 x c2 env2 g2 σ2 H2 v p2 (m1.f.trans m2) r2,
    fun env2 c2 g2 σ2 H2 p2 m2 r2 => k3 env2 c2 g2 σ2 H2 p2 (m1.f.trans m2) r2, fun env2 c2 g2 σ2 H2 p2 m2 r2 => k4 env2 c2 g2 σ2 H2 p2 (m1.f.trans m2) r2⟩
  cases b with
  | true => exact iteT (fin p1)
  | false => exact iteF (fin p1)
theorem ds_drop (h : DPE X E a da) (hs : swapsWith a none pos.line X.env = pure false := by rfl) : DPS X E (.Expr a pos) (sDrop da) := by
  refine ps_imp (ps_expr h hs) fun D σ H h => ?_
  obtain ⟨g, env, c, P, rel, q, k, _⟩ := h
  exact ⟨g, env, c, _, rel, q, fun x c1 g1 H1 v p1 m1 r1 o1 f1 => k _ c1 g1 _ H1 p1 m1.f r1⟩
/-- a, b = e1, e2 -/
def sPar (i j : Nat) (da : DA) : DS := fun D env c => da env c fun xs c1 => match xs with
  | [x, y] => D.nx ((env.set i (some x)).set j (some y)) c1
  | _ => False
theorem par_up {K : PySem.W.Frag} {i j : Nat} {dr : DA} {D : Ends} {σ : L2.St} {H : Hp} (h : upS K E (sPar i j dr) D σ H) : tPar i j (upA K E dr) D σ H := by
  obtain ⟨g, env, c, P, rel, q, k, _⟩ := h
  refine ⟨g, env, c, _, rel, q, fun xs c1 g1 H1 vs p1 m1 r1 o1 f1 => ?_⟩
  split at p1
  · rename_i x y
    match vs, o1 with
    | [v, w], o1 =>
      refine ⟨v, w, rfl, k _ c1 g1 _ H1 p1 m1.f ((r1.set i o1.1 (f1 x (by simp))).set j o1.2.1 (f1 y (by simp)))⟩
  · exact p1.elim
end

theorem ds_par {X : Cx} {E : En} (i j : Nat) {x y : Str} {a b : Expr} {dr : DA} {px py pt pos : Pos} {kt k2 pt2} (hN : X.N.Nodup) (ha : DPA X E [a, b] dr) (hij : i ≠ j := by decide) (hi : X.N[i]? = some x := by rfl) (hj : X.N[j]? = some y := by rfl)
    (hx : X.env.scope.names.lookup x = some .local := by rfl) (hy : X.env.scope.names.lookup y = some .local := by rfl) (hc : X.calm = true := by rfl)
    (hw : swappedStores [.Tuple [.Name x px, .Name y py] kt pt] (.Tuple [a, b] k2 pt2) X.env = pure (some [x, y]) := by rfl)
    (hs : swapsWithSole [.Tuple [.Name x px, .Name y py] kt pt] (.Tuple [a, b] k2 pt2) pos.line X.env = pure false := by rfl) : DPS X E (.Assign [.Tuple [.Name x px, .Name y py] kt pt] (.Tuple [a, b] k2 pt2) pos) (sPar i j dr) :=
  ps_imp (ps_par hc hN hi hj hij hx hy ha hw hs) fun _ _ _ h => par_up h

/-! ### what is walked -/
/-- the walk J gives the items, new pairs or what stands there -/
def WalkD (K : PySem.W.Frag) (g : Gh) (J : It) (items : List PyData) : Prop := ∃ G Y, Walk J items.length G Y ∧ (∀ (g' : Gh) (H' : Hp), Same g.F g'.F → Same g'.F H' → G H') ∧
  ∀ i H x H' d, items[i]? = some d → Y i H x H' → (H' = H ∧ Dp K g.F x d) ∨ ∃ T o, H T = none ∧ H' = upd H T o ∧ ∀ F, Same g.F F → F T = none → Dp K (upd F T o) x d
def upI (K : PySem.W.Frag) (E : En) (dw : DI) : TI := fun σ H R => ∃ g env c P, Rel K E g env c σ H ∧ dw env c P ∧
  ∀ items c' g' H' J, P items c' → Mv g H g' H' → Rel K E g' env c' σ H' → WalkD K g' J items → R J H'
abbrev DPI (X : Cx) (E : En) (tg e : Expr) (dw : DI) : Prop := PI X tg e (upI X.K E dw)
def wL (da : DE) : DI := fun env c P => da env c fun x c1 => datK x fun d => match d with
  | .list ds => P ds c1
  | _ => False
def wT (da : DE) : DI := fun env c P => da env c fun x c1 => datK x fun d => match d with
  | .tuple ds => P ds c1
  | _ => False
def rangeD (lo : Int) (n : Nat) : List PyData := (List.range n).map fun (k : Nat) => PyData.int (lo + k)
def wR1 (da : DA) : DI := fun env c P => da env c fun xs c1 => datsK xs fun ds => match ds with
  | [.int n] => -(2 ^ 62) ≤ n ∧ n < 2 ^ 62 ∧ P (rangeD 0 n.toNat) c1
  | _ => False
def wR2 (da : DA) : DI := fun env c P => da env c fun xs c1 => datsK xs fun ds => match ds with
  | [.int i, .int j] => (-(2 ^ 62) ≤ i ∧ i < 2 ^ 62 ∧ -(2 ^ 62) ≤ j ∧ j < 2 ^ 62) ∧ P (rangeD i (j - i).toNat) c1
  | _ => False
theorem rangeD_len (lo : Int) (n : Nat) : (rangeD lo n).length = n := by simp [rangeD]
theorem walkD_range {K : PySem.W.Frag} {g : Gh} {lo : Int} {n : Nat} : WalkD K g (Itr lo n) (rangeD lo n) := by
  refine ⟨_, _, by rw [rangeD_len]; exact walk_range, fun _ _ _ _ => trivial, fun i H x H' d e y => ?_⟩
  obtain ⟨rfl, rfl⟩ := y
  unfold rangeD at e
  rw [List.getElem?_map] at e
  by_cases hi : i < n
  · rw [List.getElem?_range hi] at e
    cases e
    exact .inl ⟨rfl, .int _⟩
  · rw [List.getElem?_eq_none (by simpa using hi)] at e
    cases e
section
variable {X : Cx} {E : En} {tg a b : Expr} {da db : DE} {dr : DA} {pos p : Pos}
theorem dw_list (h : DPE X E a da) : DPI X E tg a (wL da) := by
  refine pi_imp (pi_list h) fun σ H R h => ?_
  obtain ⟨g, env, c, P, rel, q, k⟩ := h
  refine ⟨g, env, c, _, rel, q, fun x c1 g1 H1 v p1 m1 r1 o1 f1 => ?_⟩
  cases x with
  | deck => exact p1.elim
  | exc _ => exact p1.elim
  | own l => exact p1.elim
  | dat d =>
    cases d <;> try exact p1.elim
    rename_i ds
    have o1 : Dp X.K g1.F v (.list ds) := o1
    cases o1 with
    | lst hs ha =>
      refine ⟨_, rfl, ⟨_, r1.ex.seq hs⟩, k _ c1 g1 H1 _ p1 m1 r1 ⟨_, _, by rw [← DpAll.len ha]; exact walk_list, fun g' H' m e => e.seq (m.seq hs), fun i H2 x2 H3 d2 e y => ?_⟩⟩
      obtain ⟨rfl, hx⟩ := y
      obtain ⟨d3, e3, h3⟩ := DpAll.getV ha hx
      rw [e] at e3
      cases e3
      exact .inl ⟨rfl, h3⟩
theorem dw_tup (h : DPE X E a da) : DPI X E tg a (wT da) := by
  refine pi_imp (pi_tup h) fun σ H R h => ?_
  obtain ⟨g, env, c, P, rel, q, k⟩ := h
  refine ⟨g, env, c, _, rel, q, fun x c1 g1 H1 v p1 m1 r1 o1 f1 => ?_⟩
  cases x with
  | deck => exact p1.elim
  | exc _ => exact p1.elim
  | own l => exact p1.elim
  | dat d =>
    cases d <;> try exact p1.elim
    rename_i ds
    have o1 : Dp X.K g1.F v (.tuple ds) := o1
    cases o1 with
    | tup hs ha =>
      refine ⟨_, rfl, ⟨_, seqT r1.ex hs⟩, k _ c1 g1 H1 _ p1 m1 r1 ⟨_, _, by rw [← DpAll.len ha]; exact walk_tup, fun g' H' m e => seqT e (seqT m hs), fun i H2 x2 H3 d2 e y => ?_⟩⟩
      obtain ⟨rfl, hx⟩ := y
      obtain ⟨d3, e3, h3⟩ := DpAll.getV ha hx
      rw [e] at e3
      cases e3
      exact .inl ⟨rfl, h3⟩
theorem dw_r1 (ha : DPA X E [a] dr) (hm : X.mg "range" = none) (hg : Gl X "range" := by rfl) (hs : starEach [a] X.env = [(false, eval a X.env)] := by rfl) : DPI X E tg (.Call (.Name "range" p) [a] [] pos) (wR1 dr) := by
  refine pi_imp (pi_range1 hg hm ha hs) fun σ H R h => ?_
  obtain ⟨g, env, c, P, rel, q, k⟩ := h
  refine ⟨g, env, c, _, rel, q, fun xs c1 g1 H1 vs p1 m1 r1 o1 f1 => ?_⟩
  obtain ⟨ds, h1, h2⟩ := datsK_all o1 p1
  split at h1
  · cases h2 with
    | cons h3 t =>
      cases t
      exact ⟨_, by rw [dp_int h3], h1.1, h1.2.1, k _ c1 g1 H1 _ h1.2.2 m1 r1 walkD_range⟩
  · exact h1.elim
theorem dw_r2 (ha : DPA X E [a, b] dr) (hm : X.mg "range" = none) (hg : Gl X "range" := by rfl) (hs : starEach [a, b] X.env = [(false, eval a X.env), (false, eval b X.env)] := by rfl) (hs2 : starEach [b] X.env = [(false, eval b X.env)] := by rfl) : DPI X E tg (.Call (.Name "range" p) [a, b] [] pos) (wR2 dr) := by
  refine pi_imp (pi_range2 hg hm ha hs hs2) fun σ H R h => ?_
  obtain ⟨g, env, c, P, rel, q, k⟩ := h
  refine ⟨g, env, c, _, rel, q, fun xs c1 g1 H1 vs p1 m1 r1 o1 f1 => ?_⟩
  obtain ⟨ds, h1, h2⟩ := datsK_all o1 p1
  split at h1
  · cases h2 with
    | cons h3 t =>
      cases t with
      | cons h4 t =>
        cases t
        exact ⟨_, _, by rw [dp_int h3, dp_int h4], h1.1, k _ c1 g1 H1 _ h1.2 m1 r1 walkD_range⟩
  · exact h1.elim
end

/-! ### for -/
def forL (dg : DG) (db : DS) (D : DEnds) : List PyData → Ev → Nat → Prop
  | [], env, c => D.nx env c
  | d :: ds, env, c => dg (.dat d) env fun env' => db { nx := forL dg db D ds, ct := forL dg db D ds, bk := D.nx, rt := D.rt } env' c
def sFor (dw : DI) (dg : DG) (db : DS) : DS := fun D env c => dw env c fun items c1 => forL dg db D items env c1
section
variable {X : Cx} {E : En} {tg a : Expr} {pos : Pos}
theorem drop_cons {α : Type} {l : List α} {i : Nat} (h : i < l.length) : l.drop i = l[i] :: l.drop (i + 1) := (List.drop_eq_getElem_cons h)
theorem ds_for {dw : DI} {ws : List Nat} {dg : DG} {db : DS} {body : List Stmt} (hi : DPI X E tg a dw) (hg : DPG X E ws tg dg) (hb : DPSs X E body db) (hp : PassesOwn (model X.prog X.w) X.A X.env X.xe := by exact PassesOwn.never) (hc : X.calm = true := by rfl)
    (hs : ∀ x, foldedSetIterable a X.env x = pure x := by intro _; rfl) : DPS X E (.For tg a body [] pos) (sFor dw dg db) := by
  refine ps_imp (ps_for hp hc hi hg hb hs) fun D σ H h => ?_
  obtain ⟨g, env, c, P, rel, q, k1, k2, k3, k4⟩ := h
  refine ⟨g, env, c, _, rel, q, fun items c1 g1 H1 J p1 m1 r1 wk => ?_⟩
  obtain ⟨G, Y, W, hG, hY⟩ := wk
  refine for_it W (fun i σ' H' => ∃ g' env' c', Same g1.F g'.F ∧ Rel X.K E g' env' c' σ' H' ∧ forL dg db P (items.drop i) env' c') ⟨g1, env, c1, Same.refl _, r1, p1⟩ (fun i σ' H' _ ⟨g', env', c', m, r, _⟩ => hG g' H' m r.ex) (fun i x σ' H' H2 hi hP y => ?_) (fun σ' H' hP => ?_)
  · obtain ⟨g', env', c', m, r, hf⟩ := hP
    rw [drop_cons hi] at hf
    have hd : items[i]? = some items[i] := List.getElem?_eq_getElem hi
    have step : ∃ g2, Mv g' H' g2 H2 ∧ Rel X.K E g2 env' c' σ' H2 ∧ Dp X.K g2.F x items[i] := by
      rcases hY i H' x H2 _ hd y with ⟨rfl, h1⟩ | ⟨T, o, hT, rfl, h1⟩
      · exact ⟨g', Mv.refl g' _, r, dp_mono m h1⟩
      · obtain ⟨r2, m2⟩ := r.new o hT
        exact ⟨_, m2, r2, h1 g'.F m (r.ex.free hT)⟩
    obtain ⟨g2, m2, r2, d2⟩ := step
    refine ⟨g2, env', c', .dat items[i], _, r2, d2, trivial, hf, fun env3 g3 σ3 H3 p3 m3 r3 _ => ⟨g3, env3, c', _, r3, p3, fun env4 c4 g4 σ4 H4 p4 m4 r4 => ?_, fun x4 c4 env4 g4 σ4 H4 v4 p4 m4 r4 => ?_, fun env4 c4 g4 σ4 H4 p4 m4 r4 => ?_, fun env4 c4 g4 σ4 H4 p4 m4 r4 => ?_⟩⟩
    · exact ⟨g4, env4, c4, (m.trans m2.f).trans (m3.f.trans m4), r4, p4⟩
    · exact k2 x4 c4 env4 g4 σ4 H4 v4 p4 (m1.f.trans ((m.trans m2.f).trans (m3.f.trans m4))) r4
    · exact k1 env4 c4 g4 σ4 H4 p4 (m1.f.trans ((m.trans m2.f).trans (m3.f.trans m4))) r4
    · exact ⟨g4, env4, c4, (m.trans m2.f).trans (m3.f.trans m4), r4, p4⟩
  · obtain ⟨g', env', c', m, r, hf⟩ := hP
    rw [List.drop_eq_nil_of_le (Nat.le_refl _)] at hf
    exact k1 env' c' g' σ' H' hf (m1.f.trans m) r
end

/-! ### [e for target in iter if t] -/
def lcL (dg : DG) (dt : DT) (de : DE) (env : Ev) : List PyData → List PyData → Nat → (List PyData → Nat → Prop) → Prop
  | [], acc, c, k => k acc c
  | d :: ds, acc, c, k => dg (.dat d) env fun env' => dt env' c fun b c1 => if b = true then de env' c1 fun x c2 => datK x fun z => lcL dg dt de env ds (acc ++ [z]) c2 k else lcL dg dt de env ds acc c1 k
def dLc (dw : DI) (dg : DG) (dt : DT) (de : DE) (vs : List Nat) : DE := fun env c P => dw env c fun items c1 => items.length < sizeLine ∧ lcL dg dt de (wipeE env vs) items [] c1 fun out c2 => P (.dat (.list out)) c2
def tOn : DT := fun _ c P => P true c
abbrev DPTs (X : Cx) (E : En) (e : List Expr) (dt : DT) : Prop := PTs X e (upT X.K E dt)
/-! ### a list that nobody knows yet -/
abbrev DF := Ev → Nat → (List PyData → Nat → Prop) → Prop
/-- a value that is a new list, known to nobody -/
def upF (K : PySem.W.Frag) (E : En) (dt : DF) : TE := fun σ H Q => ∃ g env c P, Rel K E g env c σ H ∧ dt env c P ∧
  ∀ l c' g' H' p xs, P l c' → Mv g H g' H' → Rel K E g' env c' σ H' → H p = none → H' p = some (.lst xs) → g'.F p = none → DpAll K g'.F xs l → Q (.ref p) H'
abbrev DPF (X : Cx) (E : En) (e : Expr) (dt : DF) : Prop := PE X e (upF X.K E dt)
/-- a new object that nobody knows -/
theorem Rel.skip {K : PySem.W.Frag} {E : En} {g : Gh} {env : Ev} {c : Nat} {σ : L2.St} {H : Hp} (r : Rel K E g env c σ H) {p : Addr} (o : HO) (hp : H p = none) : Rel K E g env c σ (upd H p o) ∧ Mv g H g (upd H p o) := by
  have keep : ∀ b x, H b = some x → upd H p o b = some x := fun b x e => by
    rw [upd_ne (ne_of_none e hp)]
    exact e
  refine ⟨⟨r.mo, r.md, r.mt, r.dn, r.nf, fun b x e n => keep b x (r.fr b x e n), r.nw, fun b x e => keep b x (r.ex b x e), fun i x e => ?_, r.ap, fun a b e => ?_, r.len⟩, ⟨Mo.refl _, fun b x e _ => keep b x e, fun b x e => ⟨x, keep b x e⟩, fun b x e => .inl e⟩⟩
  · obtain ⟨v, h1, h2⟩ := r.sl i x e
    refine ⟨v, h1, ?_⟩
    cases x with
    | dat d => exact h2
    | deck => exact h2
    | exc _ => exact h2
    | own l =>
      obtain ⟨b, xs, e1, h3, h4, h5, h6⟩ := h2
      exact ⟨b, xs, e1, h3, h4, keep b _ h5, h6⟩
  · obtain ⟨h1, h2, h3, ns, h4, h5, h6, yk, h7, h8⟩ := r.dk a b e
    exact ⟨h1, h2, h3, ns, h4, h5, keep b _ h6, yk, keep a _ h7, h8⟩
/-- a list that nobody knew becomes data -/
theorem Rel.know {K : PySem.W.Frag} {E : En} {g : Gh} {env : Ev} {c : Nat} {σ : L2.St} {H : Hp} (r : Rel K E g env c σ H) {p : Addr} {xs : List V} (hl : H p = some (.lst xs)) (hF : g.F p = none) (nd : ¬ isDk g p) (hE : E.H p = none)
    (no : ∀ (j : Nat) (l : List PyData), env[j]? = some (some (.own l)) → σ[j]? ≠ some (some (.ref p))) : Rel K E ⟨upd g.F p (.lst xs), g.dk⟩ env c σ H ∧ Same g.F (upd g.F p (.lst xs)) := by
  have sF : Same g.F (upd g.F p (.lst xs)) := fun b o e => by
    rw [upd_ne (ne_of_none e hF)]
    exact e
  refine ⟨⟨r.mo.trans sF, r.md, r.mt, r.dn, fun b o e => ?_, r.fr, r.nw, fun b o e => ?_, fun j y e => ?_, r.ap, fun a b e => ?_, r.len⟩, sF⟩
  · have e : upd g.F p (.lst xs) b = some o := e
    by_cases hb : b = p
    · exact .inr (by rw [hb]; exact hE)
    · rw [upd_ne hb] at e
      exact r.nf b o e
  · have e : upd g.F p (.lst xs) b = some o := e
    by_cases hb : b = p
    · subst hb
      rw [upd_same] at e
      rw [hl]
      exact e
    · rw [upd_ne hb] at e
      exact r.ex b o e
  · obtain ⟨v, h1, h2⟩ := r.sl j y e
    refine ⟨v, h1, ?_⟩
    cases y with
    | dat d => exact dp_mono sF h2
    | deck => exact h2
    | exc _ => exact h2
    | own l =>
      obtain ⟨b, ys, e1, h3, h4, h5, h6⟩ := h2
      refine ⟨b, ys, e1, ?_, h4, h5, dpAll_mono sF h6⟩
      show upd g.F p (.lst xs) b = none
      rw [upd_ne fun z => no j l e (by rw [h1, e1, z])]
      exact h3
  · obtain ⟨h1, h2, h3, ns, h4, h5, h6, yk, h7, h8⟩ := r.dk a b e
    have np : ∀ b, isDk g b → b ≠ p := fun b hb z => nd (z ▸ hb)
    refine ⟨h1, ?_, ?_, ns, h4, h5, h6, yk, h7, h8.mono sF⟩
    · show upd g.F p (.lst xs) a = none
      rw [upd_ne (np a ⟨a, b, e, .inl rfl⟩)]
      exact h2
    · show upd g.F p (.lst xs) b = none
      rw [upd_ne (np b ⟨a, b, e, .inr rfl⟩)]
      exact h3
theorem Rel.noDk {K : PySem.W.Frag} {E : En} {g g' : Gh} {env : Ev} {c : Nat} {σ : L2.St} {H H' : Hp} (r : Rel K E g env c σ H) (m : Mv g H g' H') {p : Addr} (hp : H p = none) : ¬ isDk g' p := fun z => by
  obtain ⟨o, e⟩ := r.deckLive (m.toMo.isDk z)
  rw [hp] at e
  cases e
theorem Rel.noOwn {K : PySem.W.Frag} {E : En} {g : Gh} {env : Ev} {c : Nat} {σ : L2.St} {H : Hp} (r : Rel K E g env c σ H) {p : Addr} (hp : H p = none) (j : Nat) (l : List PyData) (e : env[j]? = some (some (.own l))) : σ[j]? ≠ some (some (.ref p)) := fun z => by
  obtain ⟨v, h1, a, xs, e1, h3, h4, h5, h6⟩ := r.sl j _ e
  rw [h1] at z
  cases z
  cases e1
  rw [hp] at h5
  cases h5
/-- as data -/
theorem f_up {K : PySem.W.Frag} {E : En} {dt : DF} {σ : L2.St} {H : Hp} {Q : VK} (h : up K E (fun env c P => dt env c fun l c' => P (.dat (.list l)) c') σ H Q) : upF K E dt σ H Q := by
  obtain ⟨g, env, c, P, rel, q, k⟩ := h
  refine ⟨g, env, c, _, rel, q, fun l c' g' H' p xs hl m r hp hp' hF ha => ?_⟩
  obtain ⟨r2, sF⟩ := r.know hp' hF (rel.noDk m hp) (rel.oldN hp) (fun j l e => rel.noOwn hp j l e)
  refine k _ c' ⟨upd g'.F p (.lst xs), g'.dk⟩ H' _ hl ⟨⟨m.f.trans sF, m.d⟩, m.fr, m.lv, fun a o e => ?_⟩ r2 (.lst (.of upd_same) (dpAll_mono sF ha)) trivial
  have e : upd g'.F p (.lst xs) a = some o := e
  by_cases ha : a = p
  · right
    rw [ha]
    exact hp
  · rw [upd_ne ha] at e
    exact m.nf a o e
def fLc (dw : DI) (dg : DG) (dt : DT) (de : DE) (vs : List Nat) : DF := fun env c P => dw env c fun items c1 => items.length < sizeLine ∧ lcL dg dt de (wipeE env vs) items [] c1 P
section
variable {X : Cx} {E : En} {tg a elt : Expr} {pos : Pos}
theorem dts_nil : DPTs X E [] tOn := by
  refine ⟨fun pins s σ H Q I h => pts_nil.run pins s σ H Q I ?_⟩
  obtain ⟨g, env, c, P, rel, q, k⟩ := h
  exact k true c g H q (Mv.refl g H) rel
theorem dts_one {e : Expr} {t : DT} (h : DPT X E e t) : DPTs X E [e] t := pts_one h
theorem lcF_up {K : PySem.W.Frag} {dw : DI} {ws vs : List Nat} {dg : DG} {dt : DT} {de : DE} (hws : ∀ i ∈ ws, i ∈ vs) {σ : L2.St} {H : Hp} {Q : VK} (h : upF K E (fLc dw dg dt de vs) σ H Q) : tLc (upI K E dw) (upG K E ws dg) (upT K E dt) (up K E de) vs σ H Q := by
  obtain ⟨g, env, c, P, rel, q, k⟩ := h
  refine ⟨g, env, c, _, rel, q, fun items c1 g1 H1 J p1 m1 r1 wk Dl hD => ?_⟩
  obtain ⟨hlen, p1⟩ := p1
  obtain ⟨G, Y, W, hG, hY⟩ := wk
  have fresh0 : g1.F Dl = none := r1.ex.free hD
  -- the state between two turns: the list at Dl is known to nobody
  have out0 : ∀ {g' : Gh} {H' : Hp}, Mv g1 H1 g' H' → H1 Dl = none → True := fun _ _ => trivial
  have rel0 : Rel K E g1 env c1 σ (upd H1 Dl (.lst [])) ∧ Mv g1 H1 g1 (upd H1 Dl (.lst [])) := by
    have keep : ∀ b o, H1 b = some o → upd H1 Dl (.lst []) b = some o := fun b o e => by
      rw [upd_ne (ne_of_none e hD)]
      exact e
    refine ⟨⟨r1.mo, r1.md, r1.mt, r1.dn, r1.nf, fun b o e n => keep b o (r1.fr b o e n), r1.nw, fun b o e => keep b o (r1.ex b o e), fun i x e => ?_, r1.ap, fun p q e => ?_, r1.len⟩, ⟨Mo.refl _, fun b o e _ => keep b o e, fun b o e => ⟨o, keep b o e⟩, fun b o e => .inl e⟩⟩
    · obtain ⟨v, h1, h2⟩ := r1.sl i x e
      refine ⟨v, h1, ?_⟩
      cases x with
      | dat d => exact h2
      | deck => exact h2
      | exc _ => exact h2
      | own l =>
        obtain ⟨b, xs, e1, h3, h4, h5, h6⟩ := h2
        exact ⟨b, xs, e1, h3, h4, keep b _ h5, h6⟩
    · obtain ⟨h1, h2, h3, ns, h4, h5, h6, yk, h7, h8⟩ := r1.dk p q e
      exact ⟨h1, h2, h3, ns, h4, h5, keep q _ h6, yk, keep p _ h7, h8⟩
  refine lc_it W (fun i H' => ∃ g' c' xs acc, Mv g1 H1 g' H' ∧ g'.F Dl = none ∧ Rel K E g' env c' σ H' ∧ H' Dl = some (.lst xs) ∧ DpAll K g'.F xs acc ∧ acc.length ≤ i ∧ lcL dg dt de (wipeE env vs) (items.drop i) acc c' P)
    ⟨g1, c1, [], [], rel0.2, fresh0, rel0.1, upd_same, .nil, Nat.le_refl _, p1⟩ (fun i H' _ ⟨g', c', xs, acc, m, _, r, _⟩ => hG g' H' m.f r.ex) (fun i x H' H2 hi hP y => ?_) (fun H' hP => ?_)
  · obtain ⟨g', c', xs, acc, m, fD, r, hl, ha, hle, hf⟩ := hP
    rw [drop_cons hi] at hf
    have hd : items[i]? = some items[i] := List.getElem?_eq_getElem hi
    have nd : ∀ {g3 : Gh} {H3 : Hp}, Mv g' H' g3 H3 → ¬ isDk g3 Dl := fun {g3 H3} m3 z => by
      have z1 : isDk g1 Dl := (m.trans m3).toMo.isDk z
      obtain ⟨o, e⟩ := r1.deckLive z1
      rw [hD] at e
      cases e
    have step : ∃ g2, Mv g' H' g2 H2 ∧ Rel K E g2 env c' σ H2 ∧ Dp K g2.F x items[i] := by
      rcases hY i H' x H2 _ hd y with ⟨rfl, h1⟩ | ⟨T, o, hT, rfl, h1⟩
      · exact ⟨g', Mv.refl g' _, r, dp_mono m.f h1⟩
      · obtain ⟨r2, m2⟩ := r.new o hT
        exact ⟨_, m2, r2, h1 g'.F m.f (r.ex.free hT)⟩
    obtain ⟨g2, m2, r2, d2⟩ := step
    have freshD : ∀ {g3 : Gh} {H3 : Hp}, Mv g' H' g3 H3 → g3.F Dl = none := fun {g3 H3} m3 => by
      cases w : g3.F Dl with
      | none => rfl
      | some o =>
        rcases m3.nf Dl o w with z | z
        · rw [fD] at z
          cases z
        · rw [hl] at z
          cases z
    have atD : ∀ {g3 : Gh} {H3 : Hp}, Mv g' H' g3 H3 → H3 Dl = some (.lst xs) := fun m3 => m3.fr Dl _ hl (nd (Mv.refl g' H'))
    refine ⟨g2, wipeE env vs, c', .dat items[i], _, r2.wipe vs, d2, trivial, hf, fun env3 g3 σ3 H3 p3 m3 r3 a3 => ⟨ag_wipe a3 hws, g3, env3, c', _, r3, p3, fun b c4 g4 H4 p4 m4 r4 => ?_⟩⟩
    cases b with
    | false =>
      refine iteF ⟨g4, c4, xs, acc, m.trans (m2.trans (m3.trans m4)), freshD (m2.trans (m3.trans m4)), r.back r4 (m2.trans (m3.trans m4)), atD (m2.trans (m3.trans m4)), dpAll_mono (m2.trans (m3.trans m4)).f ha, Nat.le_succ_of_le hle, p4⟩
    | true =>
      refine iteT ⟨g4, env3, c4, _, r4, p4, fun x5 c5 g5 H5 v5 p5 m5 r5 o5 f5 => ?_⟩
      have mm : Mv g' H' g5 H5 := m2.trans (m3.trans (m4.trans m5))
      cases x5 with
      | deck => exact p5.elim
      | exc _ => exact p5.elim
      | own l => exact p5.elim
      | dat z =>
        have hlx : xs.length = acc.length := DpAll.len ha
        refine ⟨xs, atD mm, by omega, ?_⟩
        have rb : Rel K E g5 env c5 σ H5 := r.back r5 mm
        have keep : ∀ b o, b ≠ Dl → H5 b = some o → upd H5 Dl (.lst (xs ++ [v5])) b = some o := fun b o n e => by
          rw [upd_ne n]
          exact e
        have fd5 : g5.F Dl = none := freshD mm
        have nf5 : ∀ b o, g5.F b = some o → b ≠ Dl := fun b o e z => by
          rw [z, fd5] at e
          cases e
        refine ⟨g5, c5, xs ++ [v5], acc ++ [z], ?_, fd5, ?_, upd_same, DpAll.app (dpAll_mono mm.f ha) (.cons o5 .nil), by simp; omega, p5⟩
        · refine ⟨(m.trans mm).toMo, fun b o e n => keep b o (ne_of_none e hD) ((m.trans mm).fr b o e n), fun b o e => ?_, (m.trans mm).nf⟩
          obtain ⟨o', e'⟩ := (m.trans mm).lv b o e
          exact ⟨o', keep b o' (ne_of_none e hD) e'⟩
        · have oldD : E.H Dl = none := r1.oldN hD
          refine ⟨rb.mo, rb.md, rb.mt, rb.dn, rb.nf, fun b o e n => keep b o (ne_of_none e oldD) (rb.fr b o e n), rb.nw, fun b o e => keep b o (nf5 b o e) (rb.ex b o e), fun j y e => ?_, rb.ap, fun p q e => ?_, rb.len⟩
          · obtain ⟨v, h1, h2⟩ := rb.sl j y e
            refine ⟨v, h1, ?_⟩
            cases y with
            | dat d => exact h2
            | deck => exact h2
            | exc _ => exact h2
            | own l =>
              obtain ⟨b, ys, e1, h3, h4, h5, h6⟩ := h2
              refine ⟨b, ys, e1, h3, h4, keep b _ (fun z => ?_) h5, h6⟩
              obtain ⟨v', h1', b', ys', e1', h3', h4', h5', h6'⟩ := r1.sl j _ e
              rw [h1] at h1'
              cases h1'
              subst e1
              cases e1'
              rw [z, hD] at h5'
              cases h5'
          · obtain ⟨h1, h2, h3, ns, h4, h5, h6, yk, h7, h8⟩ := rb.dk p q e
            have np : ∀ b, isDk g5 b → b ≠ Dl := fun b hb z => nd mm (z ▸ hb)
            exact ⟨h1, h2, h3, ns, h4, h5, keep q _ (np q ⟨p, q, e, .inr rfl⟩) h6, yk, keep p _ (np p ⟨p, q, e, .inl rfl⟩) h7, h8⟩
  · obtain ⟨g', c', xs, acc, m, fD, r, hl, ha, hle, hf⟩ := hP
    rw [List.drop_eq_nil_of_le (Nat.le_refl _)] at hf
    refine k acc c' g' H' Dl xs hf (m1.trans m) r ?_ hl fD ha
    cases w : H Dl with
    | none => rfl
    | some o2 =>
      obtain ⟨o3, e3⟩ := m1.lv Dl o2 w
      rw [hD] at e3
      cases e3
theorem lc_up {K : PySem.W.Frag} {dw : DI} {ws vs : List Nat} {dg : DG} {dt : DT} {de : DE} (hws : ∀ i ∈ ws, i ∈ vs) {σ : L2.St} {H : Hp} {Q : VK} (h : up K E (dLc dw dg dt de vs) σ H Q) : tLc (upI K E dw) (upG K E ws dg) (upT K E dt) (up K E de) vs σ H Q := lcF_up hws (f_up h)
end
end DL
namespace DL
open PySem PySem.Spec PyProof.Rows L2

section
variable {X : Cx} {E : En} {tg a elt : Expr} {pos : Pos}
theorem de_lc {ifs : List Expr} {scope : Scope} (own : List (Str × Nat)) {dw : DI} {ws : List Nat} {dg : DG} {dt : DT} {de : DE} (hN : X.N.Nodup) (hi : DPI X E tg a dw) (ok : BlkOk X.N X.env.scope scope own)
    (hg : ∀ (s : Shared) (H : Hp) (C : Addr) (cl : List (Str × Addr)) (fp : List Addr), DPG (X.blk s H scope (compEnvC scope cl C X.env) fp) E ws tg dg)
    (ht : ∀ (s : Shared) (H : Hp) (C : Addr) (cl : List (Str × Addr)) (fp : List Addr), DPTs (X.blk s H scope (compEnvC scope cl C X.env) fp) E ifs dt)
    (he : ∀ (s : Shared) (H : Hp) (C : Addr) (cl : List (Str × Addr)) (fp : List Addr), DPE (X.blk s H scope (compEnvC scope cl C X.env) fp) E elt de)
    (hws : ∀ i ∈ ws, i ∈ own.map (·.2) := by decide) (hc : X.calm = true := by rfl) (hs : ∀ x, foldedSetIterable a X.env x = pure x := by intro _; rfl) :
    DPE X E (.ListComp elt [⟨tg, a, ifs, 0⟩] scope pos) (dLc dw dg dt de (own.map (·.2))) :=
  pe_imp (pe_lc hc hN hi ok hg ht he hs) fun _ _ _ h => lc_up hws h
/-- y = [..] -/
theorem ds_setLc {ifs : List Expr} {scope : Scope} {spos py : Pos} {y : Str} (i : Nat) (own : List (Str × Nat)) {dw : DI} {ws : List Nat} {dg : DG} {dt : DT} {de : DE} (hN : X.N.Nodup) (hi : DPI X E tg a dw) (ok : BlkOk X.N X.env.scope scope own)
    (hg : ∀ (s : Shared) (H : Hp) (C : Addr) (cl : List (Str × Addr)) (fp : List Addr), DPG (X.blk s H scope (compEnvC scope cl C X.env) fp) E ws tg dg)
    (ht : ∀ (s : Shared) (H : Hp) (C : Addr) (cl : List (Str × Addr)) (fp : List Addr), DPTs (X.blk s H scope (compEnvC scope cl C X.env) fp) E ifs dt)
    (he : ∀ (s : Shared) (H : Hp) (C : Addr) (cl : List (Str × Addr)) (fp : List Addr), DPE (X.blk s H scope (compEnvC scope cl C X.env) fp) E elt de)
    (hsw : swapsWith (.ListComp elt [⟨tg, a, ifs, 0⟩] scope pos) (some (.Name y py)) spos.line X.env = pure true)
    (hws : ∀ i ∈ ws, i ∈ own.map (·.2) := by decide) (hy : X.N[i]? = some y := by rfl) (hyl : X.env.scope.names.lookup y = some .local := by rfl) (hc : X.calm = true := by rfl) (hs : ∀ x, foldedSetIterable a X.env x = pure x := by intro _; rfl) :
    DPS X E (.Assign [.Name y py] (.ListComp elt [⟨tg, a, ifs, 0⟩] scope pos) spos) (sAsg (dLc dw dg dt de (own.map (·.2))) (gNm i)) := by
  refine ps_imp (ps_setLc (g := upG X.K E ws dg) (tt := upT X.K E dt) (te := up X.K E de) hc hN hy hyl hsw hi ok hg ht he hs) fun D σ H h => ?_
  have h2 := asgN_up h
  exact lc_up hws h2
end

/-! ### defs, called where no repr is under way -/
structure FnG (P : Program) (w : World) (K : PySem.W.Frag) (mg : Str → Option Value) (base : Heap) (k : Nat) (f : Addr) (fd : FuncData) (ps : List Str) (sp : Sp) : Prop where
  len : ∀ vs H Q E, sp vs H Q E → vs.length = ps.length
  run : ∀ (A : Around) (outer : List Env) (s : Shared) (H : Hp) (us : List Value) (vs : List V) (Q : VK), Room k A → A.guards = some [] → Env0 P w K mg base A outer s H → BindsTo s fd ⟨us, []⟩ (ps.zip us) → Vals vs us → sp vs H Q E0 →
    codeAny (model P w) A (.call (.ref f) ⟨us, []⟩) (CR CX0 outer P w H s Q E0) s
theorem FnG.mono {P : Program} {w : World} {K : PySem.W.Frag} {mg : Str → Option Value} {base : Heap} {j k : Nat} {f : Addr} {fd : FuncData} {ps : List Str} {sp : Sp} (F : FnG P w K mg base j f fd ps sp) (h : j ≤ k) : FnG P w K mg base k f fd ps sp :=
  ⟨F.len, fun A outer s H us vs Q hr => F.run A outer s H us vs Q (hr.mono h)⟩
section
variable {P : Program} {w : World} {K : PySem.W.Frag} {mg : Str → Option Value} {base : Heap}
theorem fnG_of {x qual : Str} {st : Stmt} {f : Addr} {fd : FuncData} {N ps : List Str} {k : Nat} {sp : Sp} (F : Fun K x qual st f fd) (S : FnScope N ps (defScope st)) (len : ∀ vs H Q E, sp vs H Q E → vs.length = ps.length)
    (hb : ∀ (cdv : Value) (A : Around) (outer : List Env) (s : Shared) (H : Hp) (vs : List V) (Q : VK), Room k (A.deeper (envOfC qual (defScope st) s.heap.objs.size f cdv)) → A.guards = some [] → sp vs H Q E0 →
      ∃ t, PSs (cxOf CX0 P w K mg base N qual (defScope st) f cdv A outer s H E0).nox (defBody st) t ∧ t { nx := fun _ H' => Q .non H', rt := Q } (start N vs) H) : FnG P w K mg base (k + 1) f fd ps sp := by
  obtain ⟨oc, od, kV, doc, pm, an, cdv, ct, osl, rfl, lk, hcd⟩ := F.ex
  refine ⟨len, fun A outer s H us vs Q room quiet env0 bind vals want => ?_⟩
  have inK := env0.mod.kin.keeps fun b o e => (env0.bs b o e).1
  have nolim := env0.mod.nolimit.keeps fun b o e => (env0.bs b o e).1
  refine codeAny_call_function room.depth (inK _ _ lk) rfl S.co S.gen rfl (PySem.W.codeRec_of inK hcd) (bind _ _ _ _ ?_)
  refine wpAny_newFunctionEnv_cells S.kind (fun y hy => ?_) fun env he s1 ic => ?_
  · rcases S.par y.1 (List.of_mem_zip (a := y.1) (b := y.2) hy).1 with q | q
    · exact Or.inl q
    · exact Or.inr ⟨q, PySem.W.cellsFrom_some _ _ _ (Or.inl q)⟩
  · subst he
    refine ⟨nolim.keeps ic.toInCall.keep, codeAny_func ?_⟩
    obtain ⟨t, derivation, reading⟩ := hb cdv A outer s H vs Q (room.deeper _) quiet want
    have J0 := inv_start (CX := CX0) (E := E0) (P := P) (w := w) (mg := mg) S room.hd env0 (len _ _ _ _ want) vals ic
    refine wpAny_mono (derivation.nox.run [] s1 (start N vs) H _ J0 reading) (fun fl s' done => ?_) (fun e s' bad => bad)
    cases fl with
    | next =>
      obtain ⟨σ', H', J, q⟩ := done
      exact ⟨V.non, H', J.os, J.bare, J.base, J.hok, rfl, q⟩
    | ret u =>
      obtain ⟨v, σ', H', J, rv, q⟩ := done
      exact ⟨v, H', J.os, J.bare, J.base, J.hok, rv, q⟩
    | brk =>
      obtain ⟨σ', H', J, q⟩ := done
      exact False.elim q
    | cont =>
      obtain ⟨σ', H', J, q⟩ := done
      exact False.elim q
end
section
variable {X : Cx} {k : Nat} {f : Addr} {fd : FuncData} {ps : List Str} {sp : Sp} {x : Str} {p pos : Pos} {e : Expr} {es : List Expr} {t : TA}
theorem pe_callG (F : FnG X.prog X.w X.K X.mg X.base k f fd ps sp) (hr : Room k X.A) (hgd : X.A.guards = some []) (hg : Gl X x) (hm : X.mg x = some (.ref f)) (hk : PySem.W.keepIn X.K (.ref f) = true) (hb : Binds X.K fd ps []) (ha : PA X (e :: es) t)
    (hdb : (x == ("__debug__" : Str)) = false := by decide) (he : starEach (e :: es) X.env = (false, eval e X.env) :: starEach es X.env := by rfl) (hpl : (backTo pos (starEach es X.env)).any (·.1) = false := by rfl) :
    PE X (.Call (.Name x p) (e :: es) [] pos) (tCall sp [] E0 t) := by
  constructor
  intro pins s σ H Q I h
  refine wpAny_Call_Name_kw (ld_glob I hg hm (PySem.W.callWith_K (h₀ := X.base) I.ok.mod.kin hk ?_ he hpl) hdb)
  refine thn (ha.run pos pins s σ H _ I h) fun us s1 hq => ?_
  obtain ⟨vs, H1, I1, r, q⟩ := hq
  have q2 : sp vs H1 Q E0 := by
    have q3 : sp (vs ++ []) H1 Q E0 := q
    rwa [List.append_nil] at q3
  have hl : us.length = ps.length := by
    rw [← r.length]
    exact F.len _ _ _ _ q2
  have hbd := hb s1 us I1.kIn (by rw [List.append_nil]; exact hl)
  rw [List.append_nil] at hbd
  refine ⟨I1.kIn, wpAny_call (codeAny_mono (F.run X.A X.stack s1 H1 us vs Q hr hgd I1.env0 hbd r q2) fun rr s' hrr => ?_)⟩
  match rr, hrr with
  | .error _, z => exact z.elim
  | .ok .next, z => exact z.elim
  | .ok .brk, z => exact z.elim
  | .ok .cont, z => exact z.elim
  | .ok (.ret u), z => exact I1.after z
end

/-! ### promises over data -/
abbrev Spec := List Vl → Nat → (Vl → Nat → Prop) → Prop
def spD (K : PySem.W.Frag) (n : Nat) (spec : Spec) : Sp := fun vs H Q _ => ∃ g c args P, Same g.F H ∧ DeckOk g H c ∧ VOks K g H vs args ∧ (∀ x ∈ args, free x) ∧ args.length = n ∧ spec args c P ∧
  ∀ x c' g' H' v, P x c' → Mv g H g' H' → Same g'.F H' → DeckOk g' H' c' → VOk K g' H' v x → free x → Q v H'
theorem VOks.len {K : PySem.W.Frag} {g : Gh} {H : Hp} : ∀ {vs : List V} {xs : List Vl}, VOks K g H vs xs → vs.length = xs.length
  | [], [], _ => rfl
  | v :: vs, x :: xs, h => by simp [VOks.len h.2]
  | [], _ :: _, h => h.elim
  | _ :: _, [], h => h.elim
theorem VOks.at {K : PySem.W.Frag} {g : Gh} {H : Hp} : ∀ {vs : List V} {xs : List Vl} {i : Nat} {x : Vl}, VOks K g H vs xs → xs[i]? = some x → ∃ v, vs[i]? = some v ∧ VOk K g H v x
  | [], [], _, _, _, e => by simp at e
  | v :: vs, y :: xs, 0, x, h, e => by
    simp at e
    subst e
    exact ⟨v, rfl, h.1⟩
  | v :: vs, y :: xs, i + 1, x, h, e => by
    obtain ⟨u, h1, h2⟩ := VOks.at (i := i) (x := x) h.2 (by simpa using e)
    exact ⟨u, by simpa using h1, h2⟩
  | [], _ :: _, _, _, h, _ => h.elim
  | _ :: _, [], _, _, h, _ => h.elim
/-- behind a call -/
theorem Rel.call {K : PySem.W.Frag} {E : En} {g g' : Gh} {env : Ev} {c c' : Nat} {σ : L2.St} {H H' : Hp} (r : Rel K E g env c σ H) (m : Mv g H g' H') (ex : Same g'.F H') (dk : DeckOk g' H' c') : Rel K E g' env c' σ H' := by
  have key : ∀ a o, E.H a = some o → ¬ isDk E.g a → ¬ isDk g a := fun a o e n z => by
    rcases r.dn a z with w | w
    · exact n w
    · rw [e] at w
      cases w
  refine ⟨r.mo.trans m.f, fun h => m.d.trans (r.md h), r.mt, fun a h => r.dn a (m.toMo.isDk h), fun a o e => ?_, fun a o e n => m.fr a o (r.fr a o e n) (key a o e n), r.nw, ex, fun i x e => ?_, r.ap, dk, r.len⟩
  · rcases m.nf a o e with h | h
    · exact r.nf a o h
    · exact Or.inr (r.oldN h)
  · obtain ⟨v, h1, h2⟩ := r.sl i x e
    refine ⟨v, h1, ?_⟩
    cases x with
    | dat d => exact dp_mono m.f h2
    | exc _ => exact h2
    | deck =>
      obtain ⟨p, q, e, z⟩ := h2
      exact ⟨p, q, by rw [m.d]; exact e, z⟩
    | own l =>
      obtain ⟨a, xs, rfl, h3, h4, h5, h6⟩ := h2
      refine ⟨a, xs, rfl, ?_, fun z => h4 (m.toMo.isDk z), m.fr a _ h5 h4, dpAll_mono m.f h6⟩
      cases q : g'.F a with
      | none => rfl
      | some o =>
        rcases m.nf a o q with w | w
        · rw [h3] at w
          cases w
        · rw [h5] at w
          cases w
section
variable {X : Cx} {E : En} {k n : Nat} {f : Addr} {fd : FuncData} {ps : List Str} {spec : Spec} {x : Str} {p pos : Pos} {e : Expr} {es : List Expr} {dr : DA}
/-- what a caller holds of a def -/
structure Def (P : Program) (w : World) (K : PySem.W.Frag) (mg : Str → Option Value) (base : Heap) (k : Nat) (x : Str) (n : Nat) (spec : Spec) : Prop where
  ex : ∃ f fd ps, FnG P w K mg base k f fd ps (spD K n spec) ∧ mg x = some (.ref f) ∧ PySem.W.keepIn K (.ref f) = true ∧ Binds K fd ps []
theorem de_call (F : Def X.prog X.w X.K X.mg X.base k x n spec) (hr : Room k X.A) (hgd : X.A.guards = some []) (ha : DPA X E (e :: es) dr) (hn : (e :: es).length = n := by rfl) (hg : Gl X x := by rfl)
    (hdb : (x == ("__debug__" : Str)) = false := by decide) (he : starEach (e :: es) X.env = (false, eval e X.env) :: starEach es X.env := by rfl) (hpl : (backTo pos (starEach es X.env)).any (·.1) = false := by rfl) :
    DPE X E (.Call (.Name x p) (e :: es) [] pos) (dCall (fun xs c P => xs.length = n ∧ spec xs c P) dr) := by
  obtain ⟨f, fd, ps, F, hm, hk, hb⟩ := F.ex
  refine pe_imp (pe_callG F hr hgd hg hm hk hb ha hdb he hpl) fun σ H Q h => ?_
  obtain ⟨g, env, c, P, rel, q, kk⟩ := h
  refine ⟨g, env, c, _, rel, q, fun xs c1 g1 H1 vs p1 m1 r1 o1 f1 => ?_⟩
  show spD X.K n spec (vs ++ []) H1 Q E0
  rw [List.append_nil]
  exact ⟨g1, c1, xs, P, r1.ex, r1.dk, o1, f1, p1.1, p1.2, fun y c2 g2 H2 v p2 m2 ex dk ok fr => kk y c2 g2 H2 v p2 (m1.trans m2) (r1.call m2 ex dk) ok fr⟩
end
/-- the slots at the entry -/
def startE (N : Nat) (args : List Vl) : Ev := args.map some ++ List.replicate (N - args.length) none
def bodySpec (N : Nat) (dt : DS) : Spec := fun args c P => dt { nx := fun _ c' => P (.dat .none) c', rt := P, bk := fun _ _ => False, ct := fun _ _ => False } (startE N args) c
theorem start_rel {K : PySem.W.Frag} {g : Gh} {c : Nat} {N : List Str} {vs : List V} {args : List Vl} {H : Hp} (ex : Same g.F H) (dk : DeckOk g H c) (ok : VOks K g H vs args) (fr : ∀ x ∈ args, free x) : Rel K ⟨g, H, false⟩ g (startE N.length args) c (start N vs) H := by
  have hl := VOks.len ok
  have key : ∀ (i : Nat) (x : Vl), (startE N.length args)[i]? = some (some x) → args[i]? = some x := fun i x e => by
    unfold startE at e
    by_cases hi : i < args.length
    · rw [List.getElem?_append_left (by simpa using hi), List.getElem?_map] at e
      cases q : args[i]? with
      | none => rw [q] at e; cases e
      | some y => rw [q] at e; cases e; rfl
    · rw [List.getElem?_append_right (by simpa using hi), List.getElem?_replicate] at e
      split at e <;> cases e
  have noown : ∀ (i : Nat) (l : List PyData), (startE N.length args)[i]? ≠ some (some (Vl.own l)) := fun i l e => fr _ (List.mem_of_getElem? (key i _ e))
  refine ⟨Same.refl _, fun _ => rfl, (fun z => by cases z), fun a h => Or.inl h, fun a o h => Or.inl h, fun a o e _ => e, fun i l e => absurd e (noown i l), ex, fun i x e => ?_, fun i j li lj a _ e => absurd e (noown i li), dk, by simp [startE, L2.start, hl]⟩
  have e2 := key i x e
  obtain ⟨v, h1, h2⟩ := VOks.at ok e2
  refine ⟨v, ?_, h2⟩
  unfold L2.start
  have hi : i < vs.length := (List.getElem?_eq_some_iff.mp h1).1
  rw [List.getElem?_append_left (by simpa using hi), List.getElem?_map, h1]
  rfl
section
variable {P : Program} {w : World} {K : PySem.W.Frag} {mg : Str → Option Value} {base : Heap}
/-- the context of a def's body -/
abbrev bodyCx (P : Program) (w : World) (K : PySem.W.Frag) (mg : Str → Option Value) (base : Heap) (N : List Str) (qual : Str) (st : Stmt) (f : Addr) (cdv : Value) (A : Around) (outer : List Env) (s : Shared) (H : Hp) : Cx :=
  (cxOf CX0 P w K mg base N qual (defScope st) f cdv A outer s H E0).nox
theorem def_of {x qual : Str} {st : Stmt} {f : Addr} {fd : FuncData} {N ps : List Str} {k n : Nat} {dt : DS} (F : Fun K x qual st f fd) (S : FnScope N ps (defScope st)) (hm : mg x = some (.ref f)) (hb : Binds K fd ps []) (hn : ps.length = n)
    (h : ∀ (cdv : Value) (A : Around) (outer : List Env) (s : Shared) (H : Hp) (E : En), Room k (A.deeper (envOfC qual (defScope st) s.heap.objs.size f cdv)) → (A.deeper (envOfC qual (defScope st) s.heap.objs.size f cdv)).guards = some [] →
      DPSs (bodyCx P w K mg base N qual st f cdv A outer s H) E (defBody st) dt) : Def P w K mg base (k + 1) x n (bodySpec N.length dt) := by
  refine ⟨f, fd, ps, fnG_of F S (fun vs H Q E q => ?_) (fun cdv A outer s H vs Q hr hgd q => ?_), hm, F.kp, hb⟩
  · obtain ⟨g, c, args, P, _, _, ok, _, hl, _⟩ := q
    rw [VOks.len ok, hl, hn]
  · obtain ⟨g, c, args, P', ex, dk, ok, fr, hl, hs, kk⟩ := q
    refine ⟨_, h cdv A outer s H ⟨g, H, false⟩ hr hgd, g, _, c, _, start_rel ex dk ok fr, hs, fun env' c' g' σ' H' p m r => ?_, fun y c' env' g' σ' H' v p m r o f => ?_, fun _ _ _ _ _ p => p.elim, fun _ _ _ _ _ p => p.elim⟩
    · exact kk _ c' g' H' .non p ⟨⟨r.mo, r.md rfl⟩, r.fr, fun a o e => r.old e, r.nf⟩ r.ex r.dk .non trivial
    · exact kk y c' g' H' v p ⟨⟨r.mo, r.md rfl⟩, r.fr, fun a o e => r.old e, r.nf⟩ r.ex r.dk o f
end
end DL
namespace DL
open PySem PySem.Spec PyProof.Rows L2

/-! ### the deck -/
def drawSpec : Spec := fun args c P => match args with
  | [.deck, .dat (.int m)] => 0 < m ∧ m < 2 ^ 200 ∧ c < 1000000000 ∧ ∀ r : Int, 0 ≤ r → r < m → P (.dat (.int r)) (c + 1)
  | _ => False
/-- the deck behind a draw -/
theorem deck_after {g : Gh} {H H' : Hp} {c : Nat} {p q : Addr} {ns : List Int} {ys : List V} (ex : Same g.F H) (hd : g.dk = some (p, q)) (hpq : p ≠ q) (fp : g.F p = none) (fq : g.F q = none) (hs : ∀ b o, b ≠ p → b ≠ q → H b = some o → H' b = some o)
    (h0 : ∀ n ∈ ns, 0 ≤ n) (h1 : ns.length ≤ 63) (hq : H' q = some (.lst (ns.map V.int))) (hp : H' p = some (.lst ys)) (hy : DShape g.F q c ys ns) : Mv g H g H' ∧ Same g.F H' ∧ DeckOk g H' c := by
  refine ⟨⟨Mo.refl g, fun a o e n => ?_, fun a o e => ?_, fun a o e => .inl e⟩, fun a o e => ?_, fun p' q' e => ?_⟩
  · exact hs a o (fun z => n ⟨p, q, hd, .inl z⟩) (fun z => n ⟨p, q, hd, .inr z⟩) e
  · by_cases z : a = p
    · exact ⟨_, by rw [z]; exact hp⟩
    · by_cases z2 : a = q
      · exact ⟨_, by rw [z2]; exact hq⟩
      · exact ⟨o, hs a o z z2 e⟩
  · exact hs a o (ne_of_none e fp) (ne_of_none e fq) (ex a o e)
  · rw [hd] at e
    cases e
    exact ⟨hpq, fp, fq, ns, h0, h1, hq, ys, hp, hy⟩
/-- what _law_deck hands back -/
def spDeck (K : PySem.W.Frag) : Sp := fun vs H Q _ => ∃ (a : Addr) (ns : List Int), vs = [.ref a] ∧ SqL K H a (ns.map V.int) ∧ ns.length ≤ 63 ∧
  ∀ H' p q (ms : List Int) (ys : List V) (F0 : Hp), Same H H' → H p = none → H q = none → p ≠ q → (∀ n ∈ ms, 0 ≤ n) → ms.length ≤ 63 → H' q = some (.lst (ms.map V.int)) → H' p = some (.lst ys) →
    Same F0 H' → (∀ a o, F0 a = some o → H a = none) → F0 p = none → F0 q = none → DShape F0 q 0 ys ms → Q (.ref p) H'
def jn (F F0 : Hp) : Hp := fun a => match F a with
  | some o => some o
  | none => F0 a
theorem jn_l {F F0 : Hp} : Same F (jn F F0) := fun a o e => by
  show (match F a with | some o => some o | none => F0 a) = some o
  rw [e]
theorem jn_r {F F0 : Hp} (h : ∀ a o, F0 a = some o → F a = none) : Same F0 (jn F F0) := fun a o e => by
  show (match F a with | some o => some o | none => F0 a) = some o
  rw [h a o e]
  exact e
theorem jn_or {F F0 : Hp} {a : Addr} {o : HO} (h : jn F F0 a = some o) : F a = some o ∨ F0 a = some o := by
  have h : (match F a with | some o => some o | none => F0 a) = some o := h
  cases e : F a with
  | some x =>
    rw [e] at h
    exact .inl h
  | none =>
    rw [e] at h
    exact .inr h
theorem jn_none {F F0 : Hp} {a : Addr} (h : F a = none) (h0 : F0 a = none) : jn F F0 a = none := by
  show (match F a with | some o => some o | none => F0 a) = none
  rw [h]
  exact h0
/-- deck = _law_deck(script): the script stands in slot j -/
def plain : Option Vl → Prop
  | some (.dat _) => True
  | none => True
  | _ => False
def sDeck (i j : Nat) : DS := fun D env c => (∃ ns : List Int, ns.length ≤ 63 ∧ env[j]? = some (some (.dat (.list (ns.map PyData.int))))) ∧ (∀ x ∈ env, plain x) ∧ D.nx (env.set i (some .deck)) 0
theorem dp_ints {K : PySem.W.Frag} {F : Hp} : ∀ {xs : List V} {ns : List Int}, DpAll K F xs (ns.map PyData.int) → xs = ns.map V.int := fun {xs ns} h => intsOf_dp (intsOf_map ns) h
theorem ds_deck {X : Cx} {E : En} {k : Nat} {f : Addr} {fd : FuncData} {ps : List Str} {x y z : Str} {p1 p2 p3 p4 p5 : Pos} (i j : Nat) (F : FnG X.prog X.w X.K X.mg X.base k f fd ps (spDeck X.K)) (hr : Room k X.A) (hgd : X.A.guards = some []) (hm : X.mg x = some (.ref f)) (hk : PySem.W.keepIn X.K (.ref f) = true) (hb : Binds X.K fd ps [])
    (hN : X.N.Nodup) (ht : E.top = true) (hj : PE X (.Name z p3) (tVar j)) (hg : Gl X x := by rfl) (hi : X.N[i]? = some y := by rfl) (hx : Loc X.env.scope y := by first | exact Or.inl rfl | exact Or.inr rfl)
    (hdb : (x == ("__debug__" : Str)) = false := by decide) (he : starEach [.Name z p3] X.env = (false, eval (.Name z p3) X.env) :: starEach [] X.env := by rfl) (hpl : (backTo p4 (starEach [] X.env)).any (·.1) = false := by rfl)
    (hs : swapsWith (.Call (.Name x p2) [.Name z p3] [] p4) (some (.Name y p1)) p5.line X.env = pure false := by rfl) (hf : X.fn y = true ∨ X.env.scope.names.lookup y = some .local := by first | exact .inl rfl | exact .inr rfl | assumption) :
    DPS X E (.Assign [.Name y p1] (.Call (.Name x p2) [.Name z p3] [] p4) p5) (sDeck i j) := by
  refine ps_imp (ps_set hN hi hx (pe_callG F hr hgd hg hm hk hb (pa_cons hj pa_nil he) hdb he hpl) hs hf) fun D σ H h => ?_
  obtain ⟨g, env, c, P, rel, ⟨⟨ns, hlen, hv⟩, hpl, q⟩, k1, _⟩ := h
  obtain ⟨v, e1, o1⟩ := rel.sl j _ hv
  have o1 : Dp X.K g.F v (.list (ns.map PyData.int)) := o1
  cases o1 with
  | lst hsq ha =>
    have ex := dp_ints ha
    subst ex
    refine ⟨_, e1, ?_⟩
    refine ⟨_, ns, rfl, rel.ex.seq hsq, hlen, fun H' p q' ms ys F0 sm hp hq hpq h0 h63 hq' hp' f0 fn fp fq hy => ?_⟩
    have dj : ∀ a o, F0 a = some o → g.F a = none := fun a o e => rel.ex.free (fn a o e)
    refine k1 _ 0 ⟨jn g.F F0, some (p, q')⟩ _ H' q jn_l ?_
    have exF : Same (jn g.F F0) H' := fun a o e => by
      rcases jn_or e with z | z
      · exact sm a o (rel.ex a o z)
      · exact f0 a o z
    have notown : ∀ (n : Nat) (l : List PyData), (env.set i (some Vl.deck))[n]? ≠ some (some (Vl.own l)) := fun n l e => by
      rcases set_get e with ⟨_, _, z⟩ | ⟨_, z⟩
      · cases z
      · exact hpl _ (List.mem_of_getElem? z)
    refine ⟨rel.mo.trans jn_l, (fun z => by rw [ht] at z; cases z), rel.mt, fun a hd => .inr ?_, fun a o e => ?_, fun a o e n => sm a o (rel.fr a o e n), fun n l e => absurd e (notown n l), exF, fun n y2 e => ?_, fun n m ln lm a _ e => absurd e (notown n ln), fun p2 q2 e => ?_, by simpa using rel.len⟩
    · obtain ⟨u, v2, e, z⟩ := hd
      cases e
      rcases z with rfl | rfl
      · exact rel.oldN hp
      · exact rel.oldN hq
    · rcases jn_or e with z | z
      · exact rel.nf a o z
      · exact .inr (rel.oldN (fn a o z))
    · rcases set_get e with ⟨rfl, hl, rfl⟩ | ⟨ne, e2⟩
      · exact ⟨.ref p, by rw [List.getElem?_set_self (by rw [← rel.len]; exact hl)], p, q', rfl, rfl⟩
      · obtain ⟨u, h1, h2⟩ := rel.sl n y2 e2
        refine ⟨u, by rw [List.getElem?_set_ne (Ne.symm ne)]; exact h1, ?_⟩
        cases y2 with
        | dat d => exact dp_mono jn_l h2
        | deck => exact (hpl _ (List.mem_of_getElem? e2)).elim
        | exc _ => exact (hpl _ (List.mem_of_getElem? e2)).elim
        | own l => exact (hpl _ (List.mem_of_getElem? e2)).elim
    · cases e
      exact ⟨hpq, jn_none (rel.ex.free hp) fp, jn_none (rel.ex.free hq) fq, ms, h0, h63, hq', ys, hp', hy.mono (jn_r dj)⟩

/-! ### the law's end -/
section
variable {P : Program} {w : World} {K : PySem.W.Frag} {mg : Str → Option Value} {base : Heap}
/-- the law's own frame: it begins with the script, no deck yet -/
def spTop (K : PySem.W.Frag) (spec : Spec) : Sp := fun vs H Q _ => ∃ (a : Addr) (ns : List Int) (P : Vl → Nat → Prop), vs = [.ref a] ∧ SqL K H a (ns.map V.int) ∧ ns.length ≤ 63 ∧ spec [.dat (.list (ns.map PyData.int))] 0 P ∧ ∀ x c' g' H' v, P x c' → VOk K g' H' v x → free x → Q v H'
theorem dpAll_ints {K : PySem.W.Frag} {F : Hp} : ∀ ns : List Int, DpAll K F (ns.map V.int) (ns.map PyData.int)
  | [] => .nil
  | n :: r => .cons (.int n) (dpAll_ints r)
theorem top_of {x qual : Str} {st : Stmt} {f : Addr} {fd : FuncData} {N ps : List Str} {k : Nat} {dt : DS} (F : Fun K x qual st f fd) (S : FnScope N ps (defScope st)) (hn : ps.length = 1)
    (h : ∀ (cdv : Value) (A : Around) (outer : List Env) (s : Shared) (H : Hp) (E : En), E.top = true → Room k (A.deeper (envOfC qual (defScope st) s.heap.objs.size f cdv)) → (A.deeper (envOfC qual (defScope st) s.heap.objs.size f cdv)).guards = some [] →
      DPSs (bodyCx P w K mg base N qual st f cdv A outer s H) E (defBody st) dt) : FnG P w K mg base (k + 1) f fd ps (spTop K (bodySpec N.length dt)) := by
  refine fnG_of F S (fun vs H Q E q => ?_) (fun cdv A outer s H vs Q hr hgd q => ?_)
  · obtain ⟨a, ns, P, rfl, _⟩ := q
    rw [hn]
    rfl
  · obtain ⟨a, ns, P', rfl, hs, hl, hsp, kk⟩ := q
    have ok : VOks K ⟨H, none⟩ H [.ref a] [.dat (.list (ns.map PyData.int))] := ⟨.lst hs (dpAll_ints ns), trivial⟩
    have r0 := start_rel (K := K) (g := ⟨H, none⟩) (c := 0) (N := N) (Same.refl H) (fun p q e => by cases e) ok (fun y hy => by rw [List.mem_singleton] at hy; subst hy; trivial)
    have r1 : Rel K ⟨⟨H, none⟩, H, true⟩ ⟨H, none⟩ (startE N.length [.dat (.list (ns.map PyData.int))]) 0 (L2.start N [.ref a]) H := ⟨r0.mo, (fun z => by cases z), fun _ => rfl, r0.dn, r0.nf, r0.fr, r0.nw, r0.ex, r0.sl, r0.ap, r0.dk, r0.len⟩
    exact ⟨_, h cdv A outer s H ⟨⟨H, none⟩, H, true⟩ rfl hr hgd, _, _, _, _, r1, hsp, fun env' c' g' σ' H' p m r => kk _ c' g' H' .non p .non trivial, fun y c' env' g' σ' H' v p m r o f => kk y c' g' H' v p o f, fun _ _ _ _ _ p => p.elim, fun _ _ _ _ _ p => p.elim⟩
end
end DL
namespace DL
open PySem PySem.Spec PyProof.Rows L2

/-! ### the call of the law, where no repr is under way -/
section
variable {P : Program} {w : World} {K : PySem.W.Frag} {mg mb : Str → Option Value} {k : Nat} {fa a : Addr} {fd : FuncData} {x : Str} {sp : Sp} {s : Shared} {vs : List Value} {ns : List Int}
/-- over one abstract heap: at most the script is told, and locked -/
theorem end_at (KX : K.In s.heap) (hns : s.heap.Ns mainGlobals mg) (hb : s.heap.Ns builtinsNs mb) (hbb : ∀ y : Str, y ≠ "__name__" → mb y = bootBuiltins y) (hlim : s.heap.NoLimit) (hg : s.gens = #[])
    (sc : s.heap.get? a = some { cls := .type "list", data := .seq vs.toArray }) (hr : Room k callerA)
    (F : ∀ base : Heap, K.In base → base.Ns mainGlobals mg → FnG P w K mg base k fa fd [x] sp) (bd : ∀ (s : Shared) (u : Value), BindsTo s fd ⟨[u], []⟩ [(x, u)])
    (H : Hp) (only : Only H) (sq : sp [.ref a] H (fun v _ => v = .bl true) E0) (ok : HOk P w H s.heap) (alone : ∀ b o, H b = some o → b = a) (away : ∀ o, H a = some o → K.lookup a = none) :
    codeAny (model P w) callerA (.call (.ref fa) ⟨[.ref a], []⟩) (fun r s' => r = .ok (.ret (.bool true)) ∧ OldK s.heap s'.heap ∧ s'.os = s.os ∧ AllBare s'.gens) s := by
  -- what is no list is not told
  have quiet : ∀ {b : Addr} {ob : Obj} {es : Array DictEntry} {ep : Nat}, s.heap.get? b = some ob → ob.data = .dict es ep → H b = none := by
    intro b ob es ep e de
    cases hb' : H b with
    | none => rfl
    | some u =>
      rw [alone b u hb', sc] at e
      cases e
      cases de
  have nsOf : ∀ {b : Addr} {m : Str → Option Value}, s.heap.Ns b m → (hidT s.heap H).Ns b m := by
    rintro b m ⟨ob, es, ep, e, de, rest⟩
    exact ⟨ob, es, ep, hidT_get e (quiet e de), de, rest⟩
  have inB : K.In (hidT s.heap H) := by
    intro b ob e
    refine hidT_get (KX b ob e) ?_
    cases hb' : H b with
    | none => rfl
    | some u =>
      have eb := alone b u hb'
      subst eb
      rw [away u hb'] at e
      cases e
  have lim2 : (hidT s.heap H).NoLimit := by
    obtain ⟨mc, h1, h2⟩ := hlim
    exact ⟨mc, nsOf h1, h2⟩
  have e0 : Env0 P w K mg (hidT s.heap H) callerA [] s H :=
    { frames := rfl, mod := ⟨inB, nsOf hns, ⟨mb, nsOf hb, hbb⟩, lim2⟩, bs := fun b o e => of_hidT e, bsz := Nat.le_of_eq (hidT_size _ _), funs := trivial, frf := (fun b h => by cases h), hok := ok, bare := .of_eq hg }
  have go := (F _ inB (nsOf hns)).run callerA [] s H [.ref a] [.ref a] _ hr rfl e0 (bd s (.ref a)) (.cons rfl .nil) sq
  refine codeAny_mono go fun r s' hq => ?_
  match r, hq with
  | .error _, z => exact z.elim
  | .ok .next, z => exact z.elim
  | .ok .brk, z => exact z.elim
  | .ok .cont, z => exact z.elim
  | .ok (.ret u), z =>
    obtain ⟨v, H', os, bare, un, ok', rv, q⟩ := z
    have q : v = .bl true := q
    subst q
    have ru : u = Value.bool true := rv
    subst ru
    refine ⟨rfl, OldK.of_keep fun b o e => ?_, os, bare⟩
    cases hb' : H b with
    | none => exact un.keep b o e hb' (fun z => by cases z) (fun z => by cases z)
    | some t =>
      rcases only b with z | ⟨ob, xs, z⟩
      · rw [hb'] at z
        cases z
      · have kept := (ok' b _ (un.frzs b ob _ z)).1
        have was := (ok b _ z).1
        rw [was] at e
        cases e
        exact kept
theorem law_end (KX : K.In s.heap) (hns : s.heap.Ns mainGlobals mg) (hb : s.heap.Ns builtinsNs mb) (hbb : ∀ y : Str, y ≠ "__name__" → mb y = bootBuiltins y) (hlim : s.heap.NoLimit) (hg : s.gens = #[])
    (sc : s.heap.get? a = some { cls := .type "list", data := .seq vs.toArray }) (iv : IntsAre vs ns) (hl : ns.length ≤ sizeLine) (hr : Room k callerA)
    (F : ∀ base : Heap, K.In base → base.Ns mainGlobals mg → FnG P w K mg base k fa fd [x] sp) (bd : ∀ (s : Shared) (u : Value), BindsTo s fd ⟨[u], []⟩ [(x, u)])
    (want : ∀ H : Hp, Only H → SqL K H a (ns.map V.int) → sp [.ref a] H (fun v _ => v = .bl true) E0) :
    codeAny (model P w) callerA (.call (.ref fa) ⟨[.ref a], []⟩) (fun r s' => r = .ok (.ret (.bool true)) ∧ OldK s.heap s'.heap ∧ s'.os = s.os ∧ AllBare s'.gens) s := by
  have rel := vals_ints iv
  have hlen : vs.length = ns.length := by
    have := rel.length
    rw [List.length_map] at this
    exact this.symm
  by_cases hk : K.lookup a = none
  · -- the script, locked
    refine end_at KX hns hb hbb hlim hg sc hr F bd (fun b => if b = a then some (.frz { cls := .type "list", data := .seq vs.toArray } (.lst (ns.map V.int))) else none) (fun b => ?_) (want _ (fun b => ?_) (.inl (.inr ⟨_, if_pos rfl⟩))) (fun b u e => ?_) (fun b u e => ?_) (fun _ _ => hk)
    · by_cases e : b = a
      · exact .inr ⟨_, _, if_pos e⟩
      · exact .inl (if_neg e)
    · by_cases e : b = a
      · exact .inr ⟨_, _, if_pos e⟩
      · exact .inl (if_neg e)
    · by_cases hba : b = a
      · subst hba
        have e2 := (if_pos rfl).symm.trans e
        cases e2
        exact ⟨sc, by rw [List.length_map]; exact hl, vs, _, rel, sc⟩
      · have e2 := (if_neg hba).symm.trans e
        cases e2
    · by_cases hba : b = a
      · exact hba
      · have e2 := (if_neg hba).symm.trans e
        cases e2
  · -- the script stands in the written part
    obtain ⟨ob, eo⟩ := Option.ne_none_iff_exists'.mp hk
    have e := KX a ob eo
    rw [sc] at e
    cases e
    refine end_at KX hns hb hbb hlim hg sc hr F bd (fun _ => none) (fun _ => .inl rfl) (want _ (fun _ => .inl rfl) (.inr ⟨_, vs.toArray, _, eo, rfl, rfl, rfl, by rw [List.size_toArray, hlen]; exact hl, by simpa using rel⟩)) (fun b u z => ?_) (fun b u z => ?_) (fun u z => ?_)
    · have z : (none : Option HO) = some u := z
      cases z
    · have z : (none : Option HO) = some u := z
      cases z
    · have z : (none : Option HO) = some u := z
      cases z
end
/-- the row's end -/
theorem walk_end {l : PySem.W.OpenLaw} {n k : Nat} {q : Program} {loose : List Str} {XP : (Str → Option Value) → Heap → Prop} {YP : World → Heap → Prop} {d : DefRec} {K : Params → PySem.W.Frag} {sp : PySem.W.Frag → Sp} {x : Str}
    (hn : l.most = some n) (hn2 : n ≤ sizeLine) (hdf : d.params.defaults = []) (hr : Room k callerA) (hY : ∀ (w : World) (h : Heap), YP w h → (K w.params).In h)
    (F : ∀ (w : World) (mg : Str → Option Value) (fa : Addr) (h : Heap), (K w.params).In h → h.Ns mainGlobals mg → mg d.name = some (.ref fa) →
      ∃ fd : FuncData, (∀ (s : Shared) (u : Value), BindsTo s fd ⟨[u], []⟩ [(x, u)]) ∧ ∀ base : Heap, (K w.params).In base → base.Ns mainGlobals mg → FnG l.prog w (K w.params) mg base k fa fd [x] (sp (K w.params)))
    (want : ∀ (K : PySem.W.Frag) (H : Hp) (a : Addr) (ns : List Int), ns.length ≤ n → SqL K H a (ns.map V.int) → sp K [.ref a] H (fun v _ => v = .bl true) E0) :
    PySem.W.WalkO q loose XP YP l.row.toRowW d [] (fun f vs => PySem.call f vs) := by
  refine Att.attach_call hn hdf fun w s₀ s₁ mg mb fa o pm cd doc a vs ns G Y ho hd hcd hmg hobj hints hlen hg => ?_
  obtain ⟨fd, bd, hF⟩ := F w mg fa _ (hY w _ Y) G.T.g hmg
  exact law_end (hY w _ Y) G.T.g G.T.b G.T.builtins G.T.nolimit hg hobj hints (Nat.le_trans hlen hn2) hr hF bd fun H _ hS => want _ H a ns hlen hS
end DL
namespace DL
open PySem PySem.Spec PyProof.Rows L2
/-! ### loops over data -/
theorem forL_inv {dg : DG} {db : DS} {D : DEnds} {items : List PyData} (I : Nat → Ev → Nat → Prop)
    (step : ∀ (j : Nat) (d : PyData) (env : Ev) (c : Nat) (k : Ev → Nat → Prop), items[j]? = some d → I j env c → (∀ env' c', I (j + 1) env' c' → k env' c') → dg (.dat d) env fun env' => db { nx := k, ct := k, bk := D.nx, rt := D.rt } env' c)
    {env : Ev} {c : Nat} (h0 : I 0 env c) (hend : ∀ env c, I items.length env c → D.nx env c) : forL dg db D items env c := by
  have key : ∀ (m j : Nat) (env : Ev) (c : Nat), m + j = items.length → I j env c → forL dg db D (items.drop j) env c := by
    intro m
    induction m with
    | zero =>
      intro j env c e h
      have e : j = items.length := by omega
      subst e
      rw [List.drop_length]
      exact hend env c h
    | succ m ih =>
      intro j env c e h
      have hj : j < items.length := by omega
      rw [List.drop_eq_getElem_cons hj]
      exact step j items[j] env c _ (List.getElem?_eq_getElem hj) h fun env' c' h' => ih (j + 1) env' c' (by omega) h'
  exact key items.length 0 env c (by omega) h0
/-- a comprehension whose element draws nothing -/
theorem lcL_pure {i : Nat} {dt : DT} {de : DE} {env : Ev} (f : PyData → Bool) (h : PyData → PyData) : ∀ (items acc : List PyData) (c : Nat) (k : List PyData → Nat → Prop),
    (∀ d ∈ items, ∀ P : Bool → Nat → Prop, P (f d) c → dt (env.set i (some (.dat d))) c P) → (∀ d ∈ items, f d = true → ∀ P : Vl → Nat → Prop, P (.dat (h d)) c → de (env.set i (some (.dat d))) c P) →
    k (acc ++ (items.filter f).map h) c → lcL (gNm i) dt de env items acc c k
  | [], acc, c, k, _, _, hk => by
    simpa [lcL] using hk
  | d :: ds, acc, c, k, h1, h2, hk => by
    unfold lcL gNm
    refine h1 d List.mem_cons_self _ ?_
    cases hf : f d with
    | false =>
      refine iteF (lcL_pure f h ds acc c k (fun e he => h1 e (List.mem_cons_of_mem _ he)) (fun e he => h2 e (List.mem_cons_of_mem _ he)) ?_)
      rw [List.filter_cons_of_neg (by rw [hf]; decide)] at hk
      exact hk
    | true =>
      refine iteT (h2 d List.mem_cons_self hf _ (lcL_pure f h ds (acc ++ [h d]) c k (fun e he => h1 e (List.mem_cons_of_mem _ he)) (fun e he => h2 e (List.mem_cons_of_mem _ he)) ?_))
      rw [List.filter_cons_of_pos hf, List.map_cons] at hk
      simpa using hk
/-- a comprehension that draws: what holds of what was made so far -/
theorem lcL_inv {i : Nat} {de : DE} {env : Ev} {items : List PyData} (N : Nat) (I : List PyData → Nat → Prop)
    (step : ∀ (d : PyData) (acc : List PyData) (c : Nat) (k : Vl → Nat → Prop), d ∈ items → acc.length < N → I acc c → (∀ z c', I (acc ++ [z]) c' → k (.dat z) c') → de (env.set i (some (.dat d))) c k)
    {k : List PyData → Nat → Prop} {c : Nat} {acc : List PyData} (hN : acc.length + items.length = N) (h0 : I acc c) (hend : ∀ out c', I out c' → out.length = N → k out c') : lcL (gNm i) tOn de env items acc c k := by
  induction items generalizing acc c with
  | nil => exact hend acc c h0 (by simpa using hN)
  | cons d ds ih =>
    rw [List.length_cons] at hN
    unfold lcL gNm tOn
    refine iteT (step d acc c _ List.mem_cons_self (by omega) h0 fun z c' hz => ?_)
    refine ih (fun e acc c k he => step e acc c k (List.mem_cons_of_mem _ he)) ?_ hz
    rw [List.length_append, List.length_singleton]
    omega
theorem ix_ok {ds : List PyData} {i : Int} {z : PyData} {P : PyData → Prop} (e : atI ds i = some z) (h : P z) : ixK ds (.int i) P := by
  unfold ixK intK
  simp only [e]
  exact h
theorem rangeD_mem {lo : Int} {n : Nat} {d : PyData} (h : d ∈ rangeD lo n) : ∃ k : Nat, k < n ∧ d = .int (lo + k) := by
  unfold rangeD at h
  obtain ⟨k, hk, rfl⟩ := List.mem_map.mp h
  exact ⟨k, List.mem_range.mp hk, rfl⟩
theorem rangeD_get {lo : Int} {n j : Nat} {d : PyData} (h : (rangeD lo n)[j]? = some d) : j < n ∧ d = .int (lo + j) := by
  unfold rangeD at h
  rw [List.getElem?_map] at h
  by_cases hj : j < n
  · rw [List.getElem?_range hj] at h
    cases h
    exact ⟨hj, rfl⟩
  · rw [List.getElem?_eq_none (by simpa using hj)] at h
    cases h
/-! ### how long a text repr makes -/
mutual
def cost : PyData → Nat
  | .none => 4
  | .bool _ => 5
  | .int _ => 1921
  | .str x => (reprText x).length
  | .list xs => costs xs + 2
  | .tuple xs => costs xs + 2
  | .dict _ => 0
def costs : List PyData → Nat
  | [] => 0
  | x :: xs => cost x + 2 + costs xs
end
theorem listText_le : ∀ ts : List Str, (listText ts).length ≤ piled ts + 2
  | [] => by decide +kernel
  | t :: r => by
    have h := textFrom_length_pos r 1 (("[" : Str) ++ (if (0 : Nat) > 0 then ", " else "" : String) ++ t) (Nat.succ_pos 0)
    have e1 : ((("[" : Str) ++ (if (0 : Nat) > 0 then ", " else "" : String) ++ t)).length = 1 + t.length := by
      rw [strLen_append, strLen_append]
      rfl
    have e2 : (listText (t :: r)).length = (textFrom 1 (("[" : Str) ++ (if (0 : Nat) > 0 then ", " else "" : String) ++ t) r).length + 1 := by
      show ((textFrom 1 (("[" : Str) ++ (if (0 : Nat) > 0 then ", " else "" : String) ++ t) r) ++ (("]" : String) : Str)).length = _
      rw [strLen_append]
      rfl
    rw [e2, h, e1, piled_cons]
    omega
mutual
theorem shown_le : ∀ d : PyData, d.showable = true → d.hasDict = false → d.shown.length ≤ cost d
  | .none, _, _ => by
    simp only [PyData.shown, cost]
    decide +kernel
  | .bool b, _, _ => by
    simp only [PyData.shown, cost]
    cases b <;> decide +kernel
  | .int i, h, _ => by
    simp only [PyData.shown, cost]
    have e := int_text_length_le (k := 1920) (by decide) (of_decide_eq_true h)
    rw [PySem.ofString_length]
    omega
  | .str x, _, _ => by
    simp only [PyData.shown, cost]
    exact Nat.le_refl _
  | .list xs, h, hd => by
    simp only [PyData.shown, cost]
    have := shownAll_le xs (by simpa [PyData.showable] using h) (by simpa [PyData.hasDict] using hd)
    have := listText_le (PyData.shownAll xs)
    omega
  | .tuple xs, h, hd => by
    simp only [PyData.shown, cost]
    have := shownAll_le xs (by simpa [PyData.showable] using h) (by simpa [PyData.hasDict] using hd)
    have := fmt_text (PyData.shownAll xs)
    omega
  | .dict _, _, hd => by simp [PyData.hasDict] at hd
theorem shownAll_le : ∀ ds : List PyData, PyData.showableAll ds = true → PyData.hasDictAll ds = false → piled (PyData.shownAll ds) ≤ costs ds
  | [], _, _ => by simp [PyData.shownAll, costs, piled]
  | d :: ds, h, hd => by
    simp only [PyData.showableAll, Bool.and_eq_true] at h
    simp only [PyData.hasDictAll, Bool.or_eq_false_iff] at hd
    simp only [PyData.shownAll, costs]
    rw [piled_cons]
    have := shown_le d h.1 hd.1
    have := shownAll_le ds h.2 hd.2
    omega
end
/-- dInts within this bound are shown -/
theorem show_int {i : Int} (h : i.natAbs < 2 ^ 1000) : PyData.showable (.int i) = true := by
  simp only [PyData.showable, decide_eq_true_eq]
  by_cases h0 : i.natAbs = 0
  · rw [h0]
    decide
  · exact Nat.lt_of_lt_of_le ((Nat.log2_lt h0).mpr h) (by decide)
theorem shows_of {d : PyData} (h1 : d.showable = true) (h2 : d.hasDict = false) (h3 : d.depth ≤ 60) (h4 : cost d ≤ sizeLine) : shows d := ⟨h1, h3, Nat.le_trans (shown_le d h1 h2) h4⟩
/-! ### lists of ints -/
def dInts (ns : List Int) : List PyData := ns.map PyData.int
theorem dInts_showable : ∀ {ns : List Int}, (∀ n ∈ ns, n.natAbs < 2 ^ 1000) → PyData.showableAll (dInts ns) = true
  | [], _ => rfl
  | n :: ns, h => by
    simp only [dInts, List.map_cons, PyData.showableAll, Bool.and_eq_true]
    exact ⟨show_int (h n List.mem_cons_self), dInts_showable fun m hm => h m (List.mem_cons_of_mem _ hm)⟩
theorem dInts_noDict : ∀ ns : List Int, PyData.hasDictAll (dInts ns) = false
  | [] => rfl
  | n :: ns => by
    simp only [dInts, List.map_cons, PyData.hasDictAll, PyData.hasDict, Bool.false_or]
    exact dInts_noDict ns
theorem dInts_depth : ∀ ns : List Int, PyData.depthAll (dInts ns) = 0
  | [] => rfl
  | n :: ns => by
    simp only [dInts, List.map_cons, PyData.depthAll, PyData.depth]
    have := dInts_depth ns
    simp only [dInts] at this
    rw [this]
    rfl
theorem dInts_costs : ∀ ns : List Int, costs (dInts ns) = 1923 * ns.length
  | [] => rfl
  | n :: ns => by
    simp only [dInts, List.map_cons, costs, cost, List.length_cons]
    have := dInts_costs ns
    simp only [dInts] at this
    omega
theorem shows_tup {ns : List Int} (h : ∀ n ∈ ns, n.natAbs < 2 ^ 1000) (hl : ns.length ≤ 1000) : shows (.tuple (dInts ns)) := by
  refine shows_of (by simpa [PyData.showable] using dInts_showable h) (by simpa [PyData.hasDict] using dInts_noDict ns) (by simp [PyData.depth, dInts_depth]) ?_
  simp only [cost, dInts_costs]
  rw [sizeLine_eq]
  omega
theorem shows_lst {ns : List Int} (h : ∀ n ∈ ns, n.natAbs < 2 ^ 1000) (hl : ns.length ≤ 1000) : shows (.list (dInts ns)) := by
  refine shows_of (by simpa [PyData.showable] using dInts_showable h) (by simpa [PyData.hasDict] using dInts_noDict ns) (by simp [PyData.depth, dInts_depth]) ?_
  simp only [cost, dInts_costs]
  rw [sizeLine_eq]
  omega
theorem dInts_at {ms : List Int} {r : Int} (h0 : 0 ≤ r) (h1 : r < ms.length) : ∃ z, atI (dInts ms) r = some (.int z) ∧ z ∈ ms := by
  have hlt : r.toNat < ms.length := by omega
  refine ⟨ms[r.toNat], ?_, List.getElem_mem hlt⟩
  have e : (dInts ms)[r.toNat]? = some (.int ms[r.toNat]) := by
    unfold dInts
    rw [List.getElem?_map, List.getElem?_eq_getElem hlt]
    rfl
  have e2 := atI_nat e
  rwa [show ((r.toNat : Nat) : Int) = r by omega] at e2
theorem ne_self {a : Str} {P : PyData → Prop} (h : P (.bool false)) : rdNe (.str a) (.str a) P := by
  unfold rdNe rdEq
  simpa using h
theorem eq_self {a : Str} {P : PyData → Prop} (h : P (.bool true)) : rdEq (.str a) (.str a) P := by
  unfold rdEq
  simpa using h
theorem sum_abs {B : Nat} : ∀ {l : List Int}, (∀ m ∈ l, m.natAbs ≤ B) → l.sum.natAbs ≤ l.length * B
  | [], _ => by simp
  | m :: l, h => by
    have h1 := h m List.mem_cons_self
    have h2 := sum_abs (l := l) fun x hx => h x (List.mem_cons_of_mem _ hx)
    rw [List.sum_cons, List.length_cons, Nat.succ_mul]
    have := Int.natAbs_add_le m l.sum
    omega
end DL
namespace DL
open PySem PySem.Spec PyProof.Rows L2

/-! ### isinstance -/
def tyN : PyData → String
  | .none => "NoneType"
  | .bool _ => "bool"
  | .int _ => "int"
  | .str _ => "str"
  | .list _ => "list"
  | .tuple _ => "tuple"
  | .dict _ => "dict"
theorem dp_ty {K : PySem.W.Frag} {H : Hp} {v : V} {d : PyData} (h : Dp K H v d) : TyX K H v (.type (tyN d)) := by
  cases h with
  | non => exact .base .non
  | bl b => exact .base (.bl b)
  | int i => exact .base (.int i)
  | str x => exact .base (.str x)
  | lst hs ha =>
    rcases hs with (e | ⟨o, e⟩) | ⟨o, its, n, e, c, _⟩
    · exact .base (.lst e)
    · exact .base (.frz e)
    · exact .kList e c
  | tup hs ha =>
    rcases hs with (e | ⟨o, e⟩) | ⟨o, its, n, e, c, _⟩
    · exact .base (.tup e)
    · exact .fTuple e
    · exact .kTuple e c
  | dct hs ha => exact .base (.dK hs)
def isTup : PyData → Bool
  | .tuple _ => true
  | _ => false
def isInt : PyData → Bool
  | .int _ => true
  | .bool _ => true
  | _ => false
def isBool : PyData → Bool
  | .bool _ => true
  | _ => false
theorem kit_tup : ∀ d : PyData, kitB (tyN d) "tuple" = some (isTup d)
  | .none => (by decide +kernel : kitB "NoneType" "tuple" = some false)
  | .bool _ => (by decide +kernel : kitB "bool" "tuple" = some false)
  | .int _ => (by decide +kernel : kitB "int" "tuple" = some false)
  | .str _ => (by decide +kernel : kitB "str" "tuple" = some false)
  | .list _ => (by decide +kernel : kitB "list" "tuple" = some false)
  | .tuple _ => (by decide +kernel : kitB "tuple" "tuple" = some true)
  | .dict _ => (by decide +kernel : kitB "dict" "tuple" = some false)
theorem kit_int : ∀ d : PyData, kitB (tyN d) "int" = some (isInt d)
  | .none => (by decide +kernel : kitB "NoneType" "int" = some false)
  | .bool _ => (by decide +kernel : kitB "bool" "int" = some true)
  | .int _ => (by decide +kernel : kitB "int" "int" = some true)
  | .str _ => (by decide +kernel : kitB "str" "int" = some false)
  | .list _ => (by decide +kernel : kitB "list" "int" = some false)
  | .tuple _ => (by decide +kernel : kitB "tuple" "int" = some false)
  | .dict _ => (by decide +kernel : kitB "dict" "int" = some false)
theorem kit_bool : ∀ d : PyData, kitB (tyN d) "bool" = some (isBool d)
  | .none => (by decide +kernel : kitB "NoneType" "bool" = some false)
  | .bool _ => (by decide +kernel : kitB "bool" "bool" = some true)
  | .int _ => (by decide +kernel : kitB "int" "bool" = some false)
  | .str _ => (by decide +kernel : kitB "str" "bool" = some false)
  | .list _ => (by decide +kernel : kitB "list" "bool" = some false)
  | .tuple _ => (by decide +kernel : kitB "tuple" "bool" = some false)
  | .dict _ => (by decide +kernel : kitB "dict" "bool" = some false)
def rdTy (f : PyData → Bool) : PyData → (PyData → Prop) → Prop := fun d P => P (.bool (f d))
section
variable {X : Cx} {E : En} {a b c : Expr} {da db dc : DE} {pos : Pos}
theorem de_isi {T : String} {x : Str} {f : PyData → Bool} {p p2 : Pos} (hT : ∀ d, kitB (tyN d) T = some (f d)) (mi : X.mg "isinstance" = none) (mT : X.mg x = none) (bT : bootBuiltins x = some (.type T)) (ha : DPE X E a da) (hg : Gl X "isinstance" := by rfl) (hg2 : Gl X x := by rfl)
    (hn : x ≠ "__name__" := by decide) (hdb : (x == ("__debug__" : Str)) = false := by decide)
    (he : starEach [a, .Name x p2] X.env = (false, eval a X.env) :: starEach [.Name x p2] X.env := by rfl) (he2 : starEach [.Name x p2] X.env = (false, eval (.Name x p2) X.env) :: starEach [] X.env := by rfl)
    (hpl : (backTo pos (starEach [.Name x p2] X.env)).any (·.1) = false := by rfl) :
    DPE X E (.Call (.Name "isinstance" p) [a, .Name x p2] [] pos) (dUn (rdTy f) da) := by
  refine pe_imp (pe_callB call_isi hg mi (by decide +kernel) (pa_cons ha (pa_cons (pe_bltn (v := .ty T) hg2 mT bT rfl hn hdb) pa_nil he2) he) (by decide) (by decide) he hpl) fun σ H Q h => ?_
  obtain ⟨g, env, c, P, rel, q, k⟩ := h
  refine ⟨g, env, c, _, rel, q, fun x c1 g1 H1 v p1 m1 r1 o1 f1 => ?_⟩
  cases x with
  | deck => exact p1.elim
  | exc _ => exact p1.elim
  | own l => exact p1.elim
  | dat d => exact ⟨v, .ty T, _, _, _, rfl, .ty T, dp_ty (dpF r1 o1), kit_ty (hT d), k _ _ g1 H1 _ p1 m1 r1 (.bl _) trivial⟩

/-! ### tuples -/
def rdAddU : PyData → PyData → (PyData → Prop) → Prop := fun d e P => match d, e with
  | .int i, .int j => P (.int (i + j))
  | .tuple xs, .tuple ys => xs.length + ys.length ≤ sizeLine ∧ P (.tuple (xs ++ ys))
  | _, _ => False
theorem opd_addU {K : PySem.W.Frag} : OpD K (fun x y H Q => rI0 (fun i j => .int (i + j)) x y H Q ∨ rCatA K x y H Q) rdAddU := by
  intro E g env c σ H x y d e P Q r hx hy q k
  unfold rdAddU at q
  split at q
  · exact .inl ⟨_, _, dp_int hx, dp_int hy, k _ g H _ q (Mv.refl g H) r (.int _)⟩
  · rename_i xs ys
    cases hx with
    | tup h1 a1 =>
      cases hy with
      | tup h2 a2 =>
        refine .inr ⟨_, _, _, _, rfl, rfl, seqT r.ex h1, seqT r.ex h2, by rw [DpAll.len a1, DpAll.len a2]; exact q.1, fun e => ?_, fun _ e => ?_, fun _ _ p hp => ?_⟩
        · subst e
          cases a1
          exact k _ g H _ q.2 (Mv.refl g H) r (.tup h2 a2)
        · subst e
          cases a2
          have q2 := q.2
          rw [List.append_nil] at q2
          exact k _ g H _ q2 (Mv.refl g H) r (.tup h1 a1)
        · obtain ⟨r2, m2⟩ := r.new (.tup _) hp
          exact k _ _ _ _ q.2 m2 r2 (.tup (.of upd_same) (DpAll.app (dpAll_mono m2.f a1) (dpAll_mono m2.f a2)))
  · exact q.elim
theorem de_addU (ha : DPE X E a da) (hb : DPE X E b db) : DPE X E (.BinOp a .Add b pos) (dOp rdAddU da db) := de_op (OpR.or op_add op_catA) opd_addU ha hb
def cutD (ds : List PyData) (lo hi : Option Int) : List PyData := (ds.drop (HT.sIx ds.length 0 lo)).take (HT.sIx ds.length ds.length hi - HT.sIx ds.length 0 lo)
theorem dpAll_cut {K : PySem.W.Frag} {F : Hp} {xs : List V} {ds : List PyData} (ha : DpAll K F xs ds) (l u : Option Int) : DpAll K F (cutV xs l u) (cutD ds l u) := by
  unfold cutV cutD
  rw [DpAll.len ha]
  exact DpAll.take _ (DpAll.drop _ ha)
abbrev DO := Ev → Nat → (Option Int → Nat → Prop) → Prop
def upO (K : PySem.W.Frag) (E : En) (dt : DO) : TO := fun σ H Q => ∃ g env c P, Rel K E g env c σ H ∧ dt env c P ∧ ∀ o c' g' H', P o c' → Mv g H g' H' → Rel K E g' env c' σ H' → Q o H'
abbrev DPO (X : Cx) (E : En) (e : Option Expr) (dt : DO) : Prop := PO X e (upO X.K E dt)
def oNo : DO := fun _ c P => P none c
def oSome (da : DE) : DO := fun env c P => da env c fun x c1 => datK x fun d => intK d fun i => P (some i) c1
theorem do_none : DPO X E none oNo := by
  refine ⟨fun pins s σ H Q I h => po_none.run pins s σ H Q I ?_⟩
  obtain ⟨g, env, c, P, rel, q, k⟩ := h
  exact k none c g H q (Mv.refl g H) rel
theorem do_some (h : DPE X E a da) : DPO X E (some a) (oSome da) := by
  refine ⟨fun pins s σ H Q I h2 => (po_some h).run pins s σ H Q I ?_⟩
  obtain ⟨g, env, c, P, rel, q, k⟩ := h2
  refine ⟨g, env, c, _, rel, q, fun x c1 g1 H1 v p1 m1 r1 o1 f1 => ?_⟩
  cases x with
  | deck => exact p1.elim
  | exc _ => exact p1.elim
  | own l => exact p1.elim
  | dat d =>
    cases d <;> try exact p1.elim
    exact ⟨_, dp_int o1, k _ _ g1 H1 p1 m1 r1⟩
def dSlT (da : DE) (lo hi : DO) : DE := fun env c P => da env c fun x c1 => datK x fun d => lo env c1 fun l c2 => hi env c2 fun u c3 => match d with
  | .tuple ds => P (.dat (.tuple (cutD ds l u))) c3
  | _ => False
theorem de_slT {lo hi : Option Expr} {dl dh : DO} {p2 : Pos} (h : DPE X E a da) (hl : DPO X E lo dl) (hu : DPO X E hi dh) : DPE X E (.Subscript a (.Slice lo hi none p2) pos) (dSlT da dl dh) := by
  refine pe_imp (pe_slice sl_tupA h hl hu) fun σ H Q h => ?_
  obtain ⟨g, env, c, P, rel, q, k⟩ := h
  refine ⟨g, env, c, _, rel, q, fun x c1 g1 H1 v p1 m1 r1 o1 f1 => ?_⟩
  cases x with
  | deck => exact p1.elim
  | exc _ => exact p1.elim
  | own l => exact p1.elim
  | dat d =>
    refine ⟨g1, env, c1, _, r1, p1, fun l c2 g2 H2 p2 m2 r2 => ⟨g2, env, c2, _, r2, p2, fun u c3 g3 H3 p3 m3 r3 => ?_⟩⟩
    cases d <;> try exact p3.elim
    rename_i ds
    have o1 : Dp X.K g1.F v (.tuple ds) := o1
    have o3 := dp_mono (m2.trans m3).f o1
    cases o3 with
    | tup hs ha =>
      have hlen := DpAll.len ha
      refine ⟨_, _, rfl, seqT r3.ex hs, fun e => ?_, fun _ p hp => ?_⟩
      · have e2 : cutD ds l u = ds := by
          unfold cutD
          rw [hlen] at e
          rw [e.1, e.2, List.drop_zero, Nat.sub_zero, List.take_length]
        have p3 : P (Vl.dat (.tuple (cutD ds l u))) c3 := p3
        rw [e2] at p3
        exact k _ _ g3 H3 _ p3 (m1.trans (m2.trans m3)) r3 (.tup hs ha) trivial
      · obtain ⟨r4, m4⟩ := r3.new (.tup _) hp
        refine k _ _ _ _ _ p3 ((m1.trans (m2.trans m3)).trans m4) r4 (.tup (.of upd_same) ?_) trivial
        exact dpAll_mono m4.f (dpAll_cut ha l u)

/-! ### a < b < c -/
def dChain (r r' : PyData → PyData → (PyData → Prop) → Prop) (da db dc : DE) : DE := fun env c P => da env c fun x c1 => datK x fun d => db env c1 fun y c2 => datK y fun e => r d e fun z => boolK z fun k => if k = true then dc env c2 fun w c3 => datK w fun u => r' e u fun z => P (.dat z) c3 else P (.dat (.bool false)) c2
theorem chain_up {K : PySem.W.Frag} {r r' : R2} {rd rd' : PyData → PyData → (PyData → Prop) → Prop} (h1 : OpD K r rd) (h2 : OpD K r' rd') {σ : L2.St} {H : Hp} {Q : VK} (h : up K E (dChain rd rd' da db dc) σ H Q) : tChain r r' (up K E da) (up K E db) (up K E dc) σ H Q := by
  obtain ⟨g, env, c, P, rel, q, k⟩ := h
  refine ⟨g, env, c, _, rel, q, fun x c1 g1 H1 v p1 m1 r1 o1 f1 => ?_⟩
  cases x with
  | deck => exact p1.elim
  | exc _ => exact p1.elim
  | own l => exact p1.elim
  | dat d =>
    refine ⟨g1, env, c1, _, r1, p1, fun y c2 g2 H2 u p2 m2 r2 o2 f2 => ?_⟩
    cases y with
    | deck => exact p2.elim
    | exc _ => exact p2.elim
    | own l => exact p2.elim
    | dat e =>
      refine h1 E g2 env c2 σ H2 v u d e _ _ r2 (dp_mono m2.f o1) o2 p2 fun z g3 H3 w pz m3 r3 dz => ?_
      cases z <;> try exact pz.elim
      rename_i kb
      refine ⟨kb, dp_bl dz, ?_⟩
      cases kb with
      | false => exact iteF (k _ _ g3 H3 _ pz ((m1.trans m2).trans m3) r3 (.bl _) trivial)
      | true =>
        refine iteT ⟨g3, env, c2, _, r3, pz, fun y2 c4 g4 H4 u4 p4 m4 r4 o4 f4 => ?_⟩
        cases y2 with
        | deck => exact p4.elim
        | exc _ => exact p4.elim
        | own l => exact p4.elim
        | dat e2 =>
          exact h2 E g4 env c4 σ H4 u u4 e e2 _ Q r4 (dp_mono (m3.trans m4).f o2) o4 p4 fun z g5 H5 w5 pz5 m5 r5 dz5 => k _ _ g5 H5 w5 pz5 ((((m1.trans m2).trans m3).trans m4).trans m5) r5 dz5 trivial
theorem de_chain {op op' : CmpOp} {r r' : R2} {rd rd' : PyData → PyData → (PyData → Prop) → Prop} (ho : OpR X (compareOp op) r) (ho' : OpR X (compareOp op') r') (h1 : OpD X.K r rd) (h2 : OpD X.K r' rd') (ha : DPE X E a da) (hb : DPE X E b db) (hc : DPE X E c dc)
    (hm : lastMarks [op, op'] [b, c] = false := by with_unfolding_all rfl) : DPE X E (.Compare a [op, op'] [b, c] pos) (dChain rd rd' da db dc) := pe_imp (pe_chain ho ho' ha hb hc hm) fun _ _ _ h => chain_up h1 h2 h

theorem dt_chain {op op' : CmpOp} {r r' : R2} {rd rd' : PyData → PyData → (PyData → Prop) → Prop} (ho : OpR X (compareOp op) r) (ho' : OpR X (compareOp op') r') (h1 : OpD X.K r rd) (h2 : OpD X.K r' rd') (ha : DPE X E a da) (hb : DPE X E b db) (hc : DPE X E c dc)
    (hm : lastMarks [op, op'] [b, c] = false := by with_unfolding_all rfl) : DPT X E (.Compare a [op, op'] [b, c] pos) (tVal (dChain rd rd' da db dc)) := pt_imp (pt_chain ho ho' ha hb hc hm) fun _ _ _ h => tB_up (fun _ _ _ h => chain_up h1 h2 h) h
theorem od_lt {K : PySem.W.Frag} : OpD K (rI0 fun i j => .bl (decide (i < j))) rdLt := opd_I0 fun _ _ _ _ => .bl _
theorem od_le {K : PySem.W.Frag} : OpD K (rI0 fun i j => .bl (decide (i ≤ j))) rdLe := opd_I0 fun _ _ _ _ => .bl _

/-! ### sorted -/
def rdSorted : List PyData → (PyData → Prop) → Prop := fun ds P => match ds with
  | [.list xs] => ∃ ns, intsOf xs = some ns ∧ ns.length < 64 ∧ ∀ ms : List Int, ms.Perm ns → ms.Pairwise (· ≤ ·) → P (.list (dInts ms))
  | _ => False
theorem cd_sorted {K : PySem.W.Frag} : CallD K (rSorted K) rdSorted := by
  intro E g env c σ H xs ds P Q r h q k
  unfold rdSorted at q
  split at q
  · cases h with
    | cons h1 t =>
      cases t
      cases h1 with
      | lst hs ha =>
        obtain ⟨ns, e, hl, q⟩ := q
        have ex := intsOf_dp e ha
        subst ex
        refine ⟨_, ns, rfl, r.ex.seq hs, hl, fun ms p h1 h2 hp => ?_⟩
        obtain ⟨r2, m2⟩ := r.new (.lst (ms.map V.int)) hp
        exact k _ _ _ _ (q ms h1 h2) m2 r2 (.lst (.of upd_same) (dpAll_ints ms))
  · exact q.elim

/-! ### zip of two tuples -/
def wZipT (da : DA) : DI := fun env c P => da env c fun xs c1 => datsK xs fun ds => match ds with
  | [.tuple xs, .tuple ys] => P ((xs.zip ys).map fun z => .tuple [z.1, z.2]) c1
  | _ => False
theorem walk_zipT {K : PySem.W.Frag} {a b : Addr} {xs ys : List V} {n : Nat} (hn : n = min xs.length ys.length) : Walk (RZ.ItzT K a b) n (fun H => SqT K H a xs ∧ SqT K H b ys) (YPair (fun i => xs[i]?) (fun i => ys[i]?)) := by
  refine ⟨fun i H hi h => ⟨xs, ys, xs[i]'(by omega), ys[i]'(by omega), h.1, h.2, List.getElem?_eq_getElem _, List.getElem?_eq_getElem _⟩, fun H h => ⟨xs, ys, h.1, h.2, by omega⟩, fun i H v H' hi h y => ?_⟩
  obtain ⟨T, x, y, e1, e2, e3, f1, f2⟩ := y
  exact ⟨T, x, y, e1, e2, e3, f1 xs h.1, f2 ys h.2⟩
theorem dw_zipT {elts : List Expr} {kk : Nat} {dr : DA} {p tpos : Pos} (ha : DPA X E [a, b] dr) (hm : X.mg "zip" = none) (hg : Gl X "zip" := by rfl) (hs : starEach [a, b] X.env = (false, eval a X.env) :: starEach [b] X.env := by rfl) (hpl : (backTo pos (starEach [b] X.env)).any (·.1) = false := by rfl) :
    DPI X E (.Tuple elts kk tpos) (.Call (.Name "zip" p) [a, b] [] pos) (wZipT dr) := by
  refine pi_imp (RZ.pi_zipA hg hm ha hs hpl) fun σ H R h => ?_
  obtain ⟨g, env, c, P, rel, q, k⟩ := h
  refine ⟨g, env, c, _, rel, q, fun xs c1 g1 H1 vs p1 m1 r1 o1 f1 => ?_⟩
  obtain ⟨ds, h1, h2⟩ := datsK_all o1 p1
  split at h1
  · rename_i us ws
    cases h2 with
    | cons h3 t =>
      cases t with
      | cons h4 t =>
        cases t
        cases h3 with
        | tup s1 a1 =>
          cases h4 with
          | tup s2 a2 =>
            refine ⟨_, _, _, _, rfl, .inr ⟨seqT r1.ex s1, seqT r1.ex s2, k _ c1 g1 H1 _ h1 m1 r1 ⟨_, _, walk_zipT (by rw [List.length_map, List.length_zip, DpAll.len a1, DpAll.len a2]), fun g' H' m e => ⟨seqT e (seqT m s1), seqT e (seqT m s2)⟩, fun i H2 x2 H3 d2 e y => ?_⟩⟩⟩
            obtain ⟨T, x, y, rfl, hT, rfl, hx, hy⟩ := y
            obtain ⟨dx, ex, px⟩ := DpAll.getV a1 hx
            obtain ⟨dy, ey, py⟩ := DpAll.getV a2 hy
            have e2 : d2 = .tuple [dx, dy] := by
              rw [List.getElem?_map, (List.getElem?_zip_eq_some (z := (dx, dy))).mpr ⟨ex, ey⟩] at e
              exact (Option.some.inj e).symm
            subst e2
            refine .inr ⟨T, _, hT, rfl, fun F hF hFT => .tup (.of upd_same) ?_⟩
            have sF : Same F (upd F T (.tup [x, y])) := fun b o e => by
              rw [upd_ne (ne_of_none e hFT)]
              exact e
            exact .cons (dp_mono (hF.trans sF) px) (.cons (dp_mono (hF.trans sF) py) .nil)
  · exact h1.elim
end
/-! ### comprehensions with any target -/
theorem lcL_gen {dg : DG} {dt : DT} {de : DE} {env : Ev} (f : PyData → Bool) (h : PyData → PyData) : ∀ (items acc : List PyData) (c : Nat) (k : List PyData → Nat → Prop),
    (∀ d ∈ items, ∀ k2 : List PyData → Nat → Prop, ∀ rest : List PyData → Nat → (List PyData → Nat → Prop) → Prop, ∀ acc, (if f d = true then rest (acc ++ [h d]) c k2 else rest acc c k2) → dg (.dat d) env fun env' => dt env' c fun b c1 => if b = true then de env' c1 fun x c2 => datK x fun z => rest (acc ++ [z]) c2 k2 else rest acc c1 k2) →
    k (acc ++ (items.filter f).map h) c → lcL dg dt de env items acc c k
  | [], acc, c, k, _, hk => by
    simpa [lcL] using hk
  | d :: ds, acc, c, k, h1, hk => by
    unfold lcL
    refine h1 d List.mem_cons_self k (fun a c k => lcL dg dt de env ds a c k) acc ?_
    cases hf : f d with
    | false =>
      refine iteF (lcL_gen f h ds acc c k (fun e he => h1 e (List.mem_cons_of_mem _ he)) ?_)
      rw [List.filter_cons_of_neg (by rw [hf]; decide)] at hk
      exact hk
    | true =>
      refine iteT (lcL_gen f h ds (acc ++ [h d]) c k (fun e he => h1 e (List.mem_cons_of_mem _ he)) ?_)
      rw [List.filter_cons_of_pos hf, List.map_cons] at hk
      simpa using hk
end DL
namespace DL
open PySem PySem.Spec PyProof.Rows L2
/-! ### what can be shown, part by part -/
structure Sm (k N : Nat) (d : PyData) : Prop where
  s : d.showable = true
  h : d.hasDict = false
  k : d.depth ≤ k
  c : cost d ≤ N
structure Sms (k N L : Nat) (ds : List PyData) : Prop where
  s : PyData.showableAll ds = true
  h : PyData.hasDictAll ds = false
  k : PyData.depthAll ds ≤ k
  c : costs ds ≤ N * L
theorem sms_nil {k N : Nat} : Sms k N 0 [] := ⟨rfl, rfl, Nat.zero_le _, Nat.zero_le _⟩
theorem sms_cons {k N L : Nat} {d : PyData} {ds : List PyData} (h : Sm k N d) (t : Sms k (N + 2) L ds) : Sms k (N + 2) (L + 1) (d :: ds) := by
  refine ⟨?_, ?_, ?_, ?_⟩
  · simp only [PyData.showableAll, h.s, t.s, Bool.and_self]
  · simp only [PyData.hasDictAll, h.h, t.h, Bool.or_self]
  · simp only [PyData.depthAll]
    have := h.k
    have := t.k
    omega
  · simp only [costs]
    have := h.c
    have := t.c
    rw [Nat.mul_succ]
    omega
theorem sms_of {k N : Nat} : ∀ {ds : List PyData}, (∀ d ∈ ds, Sm k N d) → Sms k (N + 2) ds.length ds
  | [], _ => sms_nil
  | d :: ds, h => sms_cons (h d List.mem_cons_self) (sms_of fun e he => h e (List.mem_cons_of_mem _ he))
theorem sm_tup {k N : Nat} {ds : List PyData} (L : Nat) (h : ∀ d ∈ ds, Sm k N d) (hl : ds.length ≤ L) : Sm (k + 1) ((N + 2) * L + 2) (.tuple ds) := by
  have t := sms_of h
  refine ⟨by simpa [PyData.showable] using t.s, by simpa [PyData.hasDict] using t.h, by simpa [PyData.depth] using t.k, ?_⟩
  simp only [cost]
  have := t.c
  have := Nat.mul_le_mul_left (N + 2) hl
  omega
theorem sm_lst {k N : Nat} {ds : List PyData} (L : Nat) (h : ∀ d ∈ ds, Sm k N d) (hl : ds.length ≤ L) : Sm (k + 1) ((N + 2) * L + 2) (.list ds) := by
  have t := sms_of h
  refine ⟨by simpa [PyData.showable] using t.s, by simpa [PyData.hasDict] using t.h, by simpa [PyData.depth] using t.k, ?_⟩
  simp only [cost]
  have := t.c
  have := Nat.mul_le_mul_left (N + 2) hl
  omega
theorem sm_int {i : Int} (h : i.natAbs < 2 ^ 200) : Sm 0 1921 (.int i) := ⟨show_int (Nat.lt_of_lt_of_le h (Nat.pow_le_pow_right (by decide) (by decide))), rfl, Nat.le_refl _, Nat.le_refl _⟩
theorem sm_none : Sm 0 1921 .none := ⟨rfl, rfl, Nat.le_refl _, by decide⟩
theorem sm_bool (b : Bool) : Sm 0 1921 (.bool b) := ⟨rfl, rfl, Nat.le_refl _, by simp only [cost]; decide⟩
theorem Sm.mono {k k' N N' : Nat} {d : PyData} (h : Sm k N d) (h1 : k ≤ k') (h2 : N ≤ N') : Sm k' N' d := ⟨h.s, h.h, Nat.le_trans h.k h1, Nat.le_trans h.c h2⟩
theorem Sm.shows {k N : Nat} {d : PyData} (h : Sm k N d) (h1 : k ≤ 60) (h2 : N ≤ 16000000) : DL.shows d := shows_of h.s h.h (Nat.le_trans h.k h1) (Nat.le_trans h.c (by rw [sizeLine_eq]; omega))
/-- two sorted lists of one content are one -/
theorem sorted_one : ∀ {l m : List Int}, l.Perm m → l.Pairwise (· ≤ ·) → m.Pairwise (· ≤ ·) → l = m
  | [], m, p, _, _ => (List.nil_perm.mp p).symm
  | a :: l, [], p, _, _ => (List.perm_nil.mp p)
  | a :: l, b :: m, p, hl, hm => by
    have h1 := List.pairwise_cons.mp hl
    have h2 := List.pairwise_cons.mp hm
    have e : a = b := by
      have ha : a ∈ b :: m := p.mem_iff.mp List.mem_cons_self
      have hb : b ∈ a :: l := p.mem_iff.mpr List.mem_cons_self
      have x1 : b ≤ a := by
        rcases List.mem_cons.mp ha with z | z
        · omega
        · exact h2.1 a z
      have x2 : a ≤ b := by
        rcases List.mem_cons.mp hb with z | z
        · omega
        · exact h1.1 b z
      omega
    subst e
    rw [sorted_one (List.perm_cons a |>.mp p) h1.2 h2.2]
/-! ### rules as data -/
structure R4 where
  f : Int
  s : Int
  l : Int
  m : Option Int
def optD : Option Int → PyData
  | none => .none
  | some m => .int m
def rD (r : R4) : PyData := .tuple [.int r.f, .int r.s, .int r.l, optD r.m]
def rDs (rs : List R4) : PyData := .tuple (rs.map rD)
/-- a rule for n, as the laws draw them -/
structure R4.Ok (n : Int) (r : R4) : Prop where
  f0 : 0 ≤ r.f
  f1 : r.f < n
  s0 : 1 ≤ r.s
  s1 : r.s ≤ n
  l0 : 0 ≤ r.l
  l1 : r.l.natAbs < 2 ^ 200
  m0 : ∀ m, r.m = some m → 0 ≤ m ∧ m.natAbs < 2 ^ 200
theorem sm_opt {n : Int} {r : R4} (h : r.Ok n) : Sm 0 1921 (optD r.m) := by
  cases e : r.m with
  | none => exact sm_none
  | some m => exact sm_int (h.m0 m e).2
theorem sm_rule {n : Int} {r : R4} (hn : n ≤ 1000) (h : r.Ok n) : Sm 1 7694 (rD r) := by
  have h1 : r.f.natAbs < 2 ^ 200 := Nat.lt_of_lt_of_le (by have := h.f0; have := h.f1; omega : r.f.natAbs < 1001) (by decide)
  have h2 : r.s.natAbs < 2 ^ 200 := Nat.lt_of_lt_of_le (by have := h.s0; have := h.s1; omega : r.s.natAbs < 1001) (by decide)
  refine sm_tup (k := 0) (N := 1921) (ds := [.int r.f, .int r.s, .int r.l, optD r.m]) 4 (fun d hd => ?_) (by show 4 ≤ 4; decide)
  simp only [List.mem_cons, List.not_mem_nil, or_false] at hd
  rcases hd with rfl | rfl | rfl | rfl
  · exact sm_int h1
  · exact sm_int h2
  · exact sm_int h.l1
  · exact sm_opt h
theorem sm_rules {n : Int} {rs : List R4} (hn : n ≤ 1000) (hl : rs.length ≤ 40) (h : ∀ r ∈ rs, r.Ok n) : Sm 2 307842 (rDs rs) := by
  refine sm_tup (k := 1) (N := 7694) (ds := rs.map rD) 40 (fun d hd => ?_) (by rw [List.length_map]; exact hl)
  obtain ⟨r, hr, rfl⟩ := List.mem_map.mp hd
  exact sm_rule hn (h r hr)
theorem atI_mem {ds : List PyData} {r : Int} (h0 : 0 ≤ r) (h1 : r < ds.length) : ∃ z, atI ds r = some z ∧ z ∈ ds := by
  have hlt : r.toNat < ds.length := by omega
  refine ⟨ds[r.toNat], ?_, List.getElem_mem hlt⟩
  have e2 := atI_nat (List.getElem?_eq_getElem hlt)
  rwa [show ((r.toNat : Nat) : Int) = r by omega] at e2
theorem small_len {n : Nat} (h : n ≤ 100000) : n < sizeLine := by
  rw [sizeLine_eq]
  omega
theorem dInts_len (ns : List Int) : (dInts ns).length = ns.length := by simp [dInts]
theorem small_le {n : Nat} (h : n ≤ 100000) : n ≤ sizeLine := Nat.le_of_lt (small_len h)
theorem iteD {c A B : Prop} [Decidable c] (hc : c) (h : A) : if decide c = true then A else B := by
  rw [if_pos (decide_eq_true hc)]
  exact h
theorem iteNB {b : Bool} {A B : Prop} (hb : b = true) (h : B) : if (!b) = true then A else B := by
  subst hb
  exact iteF h
theorem iteB {b : Bool} {A B : Prop} (hb : b = true) (h : A) : if b = true then A else B := by
  subst hb
  exact iteT h
theorem iteDN {c A B : Prop} [Decidable c] (hc : ¬ c) (h : B) : if decide c = true then A else B := by
  rw [if_neg fun z => hc (of_decide_eq_true z)]
  exact h
theorem dInts_eqv : ∀ ns : List Int, PyData.eqvAll (dInts ns) (dInts ns) = true
  | [] => rfl
  | n :: ns => by
    simp only [dInts, List.map_cons, PyData.eqvAll, PyData.eqv, beq_self_eq_true, Bool.true_and]
    exact dInts_eqv ns
theorem dInts_lay : ∀ ns : List Int, PyData.canLayAll0 (dInts ns) = true
  | [] => rfl
  | n :: ns => by
    simp only [dInts, List.map_cons, PyData.canLayAll0, PyData.canLay0, Bool.true_and]
    exact dInts_lay ns
theorem shaped_lst (ns : List Int) : SeqAt.shaped (.list (dInts ns)) = true := by
  unfold SeqAt.shaped
  simp [PyData.canLay0, dInts_lay, PyData.depth, dInts_depth]
theorem lst_eqv (us : List Int) : PyData.eqv (.list (dInts us)) (.list (dInts us)) = true := by
  simp only [PyData.eqv, dInts_eqv]
theorem ne_lst {us : List Int} {P : PyData → Prop} (h : P (.bool false)) : rdNe (.list (dInts us)) (.list (dInts us)) P := by
  refine ⟨shaped_lst us, shaped_lst us, ?_⟩
  have e : PyData.eqv (.list (dInts us)) (.list (dInts us)) = true := by
    simp only [PyData.eqv, dInts_eqv]
  show (match PyData.bool (PyData.eqv (.list (dInts us)) (.list (dInts us))) with | .bool b => P (.bool (!b)) | _ => False)
  rw [e]
  exact h
end DL
namespace DL
open PySem PySem.Spec PyProof.Rows L2

/-! ### lists that the frame alone knows -/
section
variable {K : PySem.W.Frag} {E : En} {g g' : Gh} {env : Ev} {c : Nat} {σ : L2.St} {H : Hp}
theorem Rel.newOwn (r : Rel K E g env c σ H) (i : Nat) {p : Addr} {xs : List V} {l : List PyData} (hp : H p = none) (ha : DpAll K g.F xs l) : Rel K E g (env.set i (some (.own l))) c (σ.set i (some (.ref p))) (upd H p (.lst xs)) := by
  have keep : ∀ b o, H b = some o → upd H p (.lst xs) b = some o := fun b o e => by
    rw [upd_ne (ne_of_none e hp)]
    exact e
  have nd : ¬ isDk g p := fun h => by
    obtain ⟨o', e⟩ := r.deckLive h
    rw [hp] at e
    cases e
  have live : ∀ (j : Nat) (m : List PyData), env[j]? = some (some (Vl.own m)) → σ[j]? ≠ some (some (V.ref p)) := fun j m e z => by
    obtain ⟨v, h1, b, ys, e1, _, _, h5, _⟩ := r.sl j _ e
    rw [z] at h1
    cases h1
    cases e1
    rw [hp] at h5
    cases h5
  refine ⟨r.mo, r.md, r.mt, r.dn, r.nf, fun a o e n => keep a o (r.fr a o e n), fun j m e a ea => ?_, fun a o e => keep a o (r.ex a o e), fun j y e => ?_, fun j k lj lk a ne e1 e2 e3 e4 => ?_, fun a b e => ?_, by simpa using r.len⟩
  · rcases set_get e with ⟨rfl, hl, _⟩ | ⟨ne, e2⟩
    · rw [List.getElem?_set_self (by rw [← r.len]; exact hl)] at ea
      cases ea
      exact r.oldN hp
    · rw [List.getElem?_set_ne (Ne.symm ne)] at ea
      exact r.nw j m e2 a ea
  · rcases set_get e with ⟨rfl, hl, rfl⟩ | ⟨ne, e2⟩
    · exact ⟨.ref p, by rw [List.getElem?_set_self (by rw [← r.len]; exact hl)], p, xs, rfl, r.ex.free hp, nd, upd_same, ha⟩
    · obtain ⟨v, h1, h2⟩ := r.sl j y e2
      refine ⟨v, by rw [List.getElem?_set_ne (Ne.symm ne)]; exact h1, ?_⟩
      cases y with
      | dat d => exact h2
      | deck => exact h2
      | exc _ => exact h2
      | own m =>
        obtain ⟨b, ys, e1, h3, h4, h5, h6⟩ := h2
        exact ⟨b, ys, e1, h3, h4, keep b _ h5, h6⟩
  · rcases set_get e1 with ⟨rfl, hl, _⟩ | ⟨n1, f1⟩
    · rw [List.getElem?_set_self (by rw [← r.len]; exact hl)] at e3
      cases e3
      rcases set_get e2 with ⟨z, _, _⟩ | ⟨n2, f2⟩
      · exact ne z.symm
      · rw [List.getElem?_set_ne (Ne.symm n2)] at e4
        exact live k lk f2 e4
    · rw [List.getElem?_set_ne (Ne.symm n1)] at e3
      rcases set_get e2 with ⟨rfl, hl, _⟩ | ⟨n2, f2⟩
      · rw [List.getElem?_set_self (by rw [← r.len]; exact hl)] at e4
        cases e4
        exact live j lj f1 e3
      · rw [List.getElem?_set_ne (Ne.symm n2)] at e4
        exact r.ap j k lj lk a ne f1 f2 e3 e4
  · obtain ⟨h1, h2, h3, ns, h4, h5, h6, ys, h7, h8⟩ := r.dk a b e
    exact ⟨h1, h2, h3, ns, h4, h5, keep b _ h6, ys, keep a _ h7, h8⟩
/-- the list in slot i is written -/
theorem Rel.writeOwn (r : Rel K E g env c σ H) (i : Nat) {l m : List PyData} {p : Addr} {ys : List V} (e : env[i]? = some (some (.own l))) (es : σ[i]? = some (some (.ref p))) (ha : DpAll K g.F ys m) : Rel K E g (env.set i (some (.own m))) c σ (upd H p (.lst ys)) := by
  obtain ⟨v, h1, a, xs, e1, h3, h4, h5, h6⟩ := r.sl i _ e
  rw [es] at h1
  cases h1
  cases e1
  have keep : ∀ b o, b ≠ p → H b = some o → upd H p (.lst ys) b = some o := fun b o n e => by
    rw [upd_ne n]
    exact e
  have hi : i < env.length := (List.getElem?_eq_some_iff.mp e).1
  have back : ∀ (j : Nat) (q : List PyData), (env.set i (some (Vl.own m)))[j]? = some (some (Vl.own q)) → ∃ q', env[j]? = some (some (Vl.own q')) := fun j q ej => by
    rcases set_get ej with ⟨rfl, _, _⟩ | ⟨_, f⟩
    · exact ⟨l, e⟩
    · exact ⟨q, f⟩
  have oldp : E.H p = none := r.nw i l e p es
  refine ⟨r.mo, r.md, r.mt, r.dn, r.nf, fun b o eb n => keep b o (ne_of_none eb oldp) (r.fr b o eb n), fun j q ej b eb => ?_, fun b o eb => keep b o (ne_of_none eb h3) (r.ex b o eb), fun j y ej => ?_, fun j k lj lk b ne ej ek e3 e4 => ?_, fun b q eb => ?_, by simpa using r.len⟩
  · obtain ⟨q', f⟩ := back j q ej
    exact r.nw j q' f b eb
  · rcases set_get ej with ⟨rfl, hl, rfl⟩ | ⟨ne, f⟩
    · exact ⟨.ref p, es, p, ys, rfl, h3, h4, upd_same, ha⟩
    · obtain ⟨v, g1, g2⟩ := r.sl j y f
      refine ⟨v, g1, ?_⟩
      cases y with
      | dat d => exact g2
      | deck => exact g2
      | exc _ => exact g2
      | own q =>
        obtain ⟨b, zs, e1, k3, k4, k5, k6⟩ := g2
        subst e1
        exact ⟨b, zs, rfl, k3, k4, keep b _ (fun z => r.ap i j l q p (Ne.symm ne) e f es (by rw [g1, z])) k5, k6⟩
  · obtain ⟨qj, fj⟩ := back j lj ej
    obtain ⟨qk, fk⟩ := back k lk ek
    exact r.ap j k qj qk b ne fj fk e3 e4
  · obtain ⟨k1, k2, k3, ns, k4, k5, k6, yk, k7, k8⟩ := r.dk b q eb
    exact ⟨k1, k2, k3, ns, k4, k5, keep q _ (fun z => h4 ⟨b, q, eb, .inr z.symm⟩) k6, yk, keep b _ (fun z => h4 ⟨b, q, eb, .inl z.symm⟩) k7, k8⟩
/-- the list in slot i is data from now on -/
theorem Rel.freeze (r : Rel K E g env c σ H) (i : Nat) {l : List PyData} (e : env[i]? = some (some (.own l))) : ∃ g', Rel K E g' (env.set i (some (.dat (.list l)))) c σ H ∧ Same g.F g'.F := by
  obtain ⟨v, h1, p, xs, e1, h3, h4, h5, h6⟩ := r.sl i _ e
  subst e1
  have sF : Same g.F (upd g.F p (.lst xs)) := fun b o e => by
    rw [upd_ne (ne_of_none e h3)]
    exact e
  have hi : i < env.length := (List.getElem?_eq_some_iff.mp e).1
  have back : ∀ (j : Nat) (q : List PyData), (env.set i (some (Vl.dat (.list l))))[j]? = some (some (Vl.own q)) → j ≠ i ∧ env[j]? = some (some (Vl.own q)) := fun j q ej => by
    rcases set_get ej with ⟨_, _, z⟩ | f
    · cases z
    · exact f
  refine ⟨⟨upd g.F p (.lst xs), g.dk⟩, ⟨r.mo.trans sF, r.md, r.mt, r.dn, fun b o eb => ?_, r.fr, fun j q ej b eb => r.nw j q (back j q ej).2 b eb, fun b o eb => ?_, fun j y ej => ?_, fun j k lj lk b ne ej ek => r.ap j k lj lk b ne (back j lj ej).2 (back k lk ek).2, fun b q eb => ?_, by simpa using r.len⟩, sF⟩
  · have eb : upd g.F p (.lst xs) b = some o := eb
    by_cases hb : b = p
    · exact .inr (by rw [hb]; exact r.nw i l e p h1)
    · rw [upd_ne hb] at eb
      exact r.nf b o eb
  · have eb : upd g.F p (.lst xs) b = some o := eb
    by_cases hb : b = p
    · subst hb
      rw [upd_same] at eb
      rw [h5]
      exact eb
    · rw [upd_ne hb] at eb
      exact r.ex b o eb
  · rcases set_get ej with ⟨rfl, hl, rfl⟩ | ⟨ne, f⟩
    · exact ⟨.ref p, h1, .lst (.of upd_same) (dpAll_mono sF h6)⟩
    · obtain ⟨v, g1, g2⟩ := r.sl j y f
      refine ⟨v, g1, ?_⟩
      cases y with
      | dat d => exact dp_mono sF g2
      | deck => exact g2
      | exc _ => exact g2
      | own q =>
        obtain ⟨b, zs, e1, k3, k4, k5, k6⟩ := g2
        subst e1
        refine ⟨b, zs, rfl, ?_, k4, k5, dpAll_mono sF k6⟩
        show upd g.F p (.lst xs) b = none
        rw [upd_ne fun z => r.ap i j l q p (Ne.symm ne) e f h1 (by rw [g1, z])]
        exact k3
  · obtain ⟨k1, k2, k3, ns, k4, k5, k6, yk, k7, k8⟩ := r.dk b q eb
    refine ⟨k1, ?_, ?_, ns, k4, k5, k6, yk, k7, k8.mono sF⟩
    · show upd g.F p (.lst xs) b = none
      rw [upd_ne fun z => h4 ⟨b, q, eb, .inl z.symm⟩]
      exact k2
    · show upd g.F p (.lst xs) q = none
      rw [upd_ne fun z => h4 ⟨b, q, eb, .inr z.symm⟩]
      exact k3
end
def sNew (i : Nat) : DS := fun D env c => D.nx (env.set i (some (.own []))) c
def sApp (i : Nat) (da : DE) : DS := fun D env c => match env[i]? with
  | some (some (.own l)) => da env c fun x c1 => datK x fun d => l.length < sizeLine ∧ D.nx (env.set i (some (.own (l ++ [d])))) c1
  | _ => False
def sFrz (i : Nat) (dt : DS) : DS := fun D env c => match env[i]? with
  | some (some (.own l)) => dt D (env.set i (some (.dat (.list l)))) c
  | _ => False
section
variable {X : Cx} {E : En} {a b : Expr} {da db : DE} {pos : Pos}
/-- x = [] -/
theorem ds_new (i : Nat) {x : Str} {p1 p2 : Pos} (hN : X.N.Nodup) (hi : X.N[i]? = some x := by rfl) (hx : Loc X.env.scope x := by first | exact Or.inl rfl | exact Or.inr rfl) (hs : swapsWith (.List [] p1) (some (.Name x p2)) pos.line X.env = pure false := by rfl) (hf : X.fn x = true ∨ X.env.scope.names.lookup x = some .local := by first | exact .inl rfl | exact .inr rfl | assumption) :
    DPS X E (.Assign [.Name x p2] (.List [] p1) pos) (sNew i) := by
  refine ps_imp (ps_set hN hi hx (pe_lst pa_nil) hs hf) fun D σ H h => ?_
  obtain ⟨g, env, c, P, rel, q, k, _⟩ := h
  exact ⟨Nat.zero_le _, fun p hp => k _ c g _ _ q (Same.refl _) (rel.newOwn i hp .nil)⟩
/-- x.append(e) -/
theorem ds_app (i : Nat) {x : Str} {p1 p2 p3 : Pos} (h : DPE X E a da) (hN : X.N[i]? = some x := by rfl) (hv : Vis X.env.scope x := by first | exact Or.inl rfl | exact Or.inr (Or.inl rfl) | exact Or.inr (Or.inr rfl)) (h1 : (x == ("__debug__" : Str)) = false := by decide)
    (h2 : (x == ("__classdict__" : Str)) = false := by decide) (hb : attributeBase (.Name x p1) "append" X.env (eval (.Name x p1) X.env) = eval (.Name x p1) X.env := by rfl)
    (hfew : ((backTo p3 (starEach [a] X.env)).all (fun x => !x.1) && (backToKw p3 (keywordEach [] X.env)).all (fun x => x.1.isSome) && decide ([a].length + ([] : List Keyword).length + (if ([] : List Keyword).isEmpty then 0 else 1) < 30)) = true := by rfl)
    (hline : (p2.endLine == p3.line) = true := by rfl) (he : starEach [a] X.env = (false, eval a X.env) :: starEach [] X.env := by rfl) (hpl : (backTo p3 (starEach [] X.env)).any (·.1) = false := by rfl)
    (hs : swapsWith (.Call (.Attribute (.Name x p1) "append" p2) [a] [] p3) none pos.line X.env = pure false := by rfl) :
    DPS X E (.Expr (.Call (.Attribute (.Name x p1) "append" p2) [a] [] p3) pos) (sApp i da) := by
  refine ps_imp (ps_expr (pe_bm PySem.F.plainAttrs_list PySem.F.slot_list_append PySem.F.type_list_append mt_append (pe_var hN hv h1 h2) (pa_cons h pa_nil he) hb hfew hline he hpl) hs) fun D σ H h => ?_
  obtain ⟨g, env, c, P, rel, q, k, _⟩ := h
  unfold sApp at q
  split at q
  · rename_i l e
    obtain ⟨v, e1, p, xs, rfl, h3, h4, h5, h6⟩ := rel.sl i _ e
    refine ⟨_, e1, .inl ⟨rfl, _, .of h5⟩, g, env, c, _, rel, q, fun y c1 g1 H1 w p1 m1 r1 o1 f1 => ?_⟩
    cases y with
    | deck => exact p1.elim
    | exc _ => exact p1.elim
    | own l => exact p1.elim
    | dat d =>
      have h5' := m1.fr p _ h5 h4
      refine ⟨p, xs, w, rfl, rfl, h5', by rw [DpAll.len h6]; exact p1.1, k _ c1 g1 _ _ p1.2 m1.f (r1.writeOwn i e e1 (DpAll.app (dpAll_mono m1.f h6) (.cons o1 .nil)))⟩
  · exact q.elim
/-- ahead of what follows, the list in slot i becomes data -/
theorem ds_frz (i : Nat) {sts : List Stmt} {dt : DS} (h : DPSs X E sts dt) : DPSs X E sts (sFrz i dt) := by
  refine pss_imp h fun D σ H h => ?_
  obtain ⟨g, env, c, P, rel, q, k1, k2, k3, k4⟩ := h
  unfold sFrz at q
  split at q
  · rename_i l e
    obtain ⟨g', r', m⟩ := rel.freeze i e
    exact ⟨g', _, c, P, r', q, fun env2 c2 g2 σ2 H2 p2 m2 r2 => k1 env2 c2 g2 σ2 H2 p2 (m.trans m2) r2, fun x c2 env2 g2 σ2 H2 v p2 m2 r2 => k2 x c2 env2 g2 σ2 H2 v p2 (m.trans m2) r2, fun env2 c2 g2 σ2 H2 p2 m2 r2 => k3 env2 c2 g2 σ2 H2 p2 (m.trans m2) r2, fun env2 c2 g2 σ2 H2 p2 m2 r2 => k4 env2 c2 g2 σ2 H2 p2 (m.trans m2) r2⟩
  · exact q.elim
/-! ### x or y, of None and ints -/
def truK (d : PyData) (k : Bool → Prop) : Prop := match d with
  | .none => k false
  | .bool b => k b
  | .int i => k (i != 0)
  | .list xs => k (!xs.isEmpty)
  | .tuple xs => k (!xs.isEmpty)
  | _ => False
def dOrT (da db : DE) : DE := fun env c P => da env c fun x c1 => datK x fun d => truK d fun b => if b = true then P (.dat d) c1 else db env c1 P
theorem isEmpty_dp {K : PySem.W.Frag} {F : Hp} {xs : List V} {ds : List PyData} (h : DpAll K F xs ds) : xs.isEmpty = ds.isEmpty := by cases h <;> rfl
theorem truK_dp {K : PySem.W.Frag} {H : Hp} {v : V} {d : PyData} {k : Bool → Prop} (h : Dp K H v d) (q : truK d k) : ∃ b, TruV K v H b ∧ k b := by
  cases h with
  | non => exact ⟨_, rfl, q⟩
  | bl b => exact ⟨_, rfl, q⟩
  | int i => exact ⟨_, rfl, q⟩
  | str x => exact q.elim
  | lst hs ha => exact ⟨_, .inl ⟨_, hs, rfl⟩, by rw [isEmpty_dp ha]; exact q⟩
  | tup hs ha => exact ⟨_, .inr (.inl ⟨_, hs, rfl⟩), by rw [isEmpty_dp ha]; exact q⟩
  | dct hs ha => exact q.elim
theorem de_orT {rest : List Expr} (h : DPE X E a da) (h2 : DPE X E (.BoolOp .Or (b :: rest) pos) db) : DPE X E (.BoolOp .Or (a :: b :: rest) pos) (dOrT da db) := by
  refine pe_imp (pe_orT h h2) fun σ H Q h => ?_
  obtain ⟨g, env, c, P, rel, q, k⟩ := h
  refine ⟨g, env, c, _, rel, q, fun x c1 g1 H1 v p1 m1 r1 o1 f1 => ?_⟩
  cases x with
  | deck => exact p1.elim
  | exc _ => exact p1.elim
  | own l => exact p1.elim
  | dat d =>
    have p1 : truK d (fun b => if b = true then P (.dat d) c1 else db env c1 P) := p1
    obtain ⟨bb, t, p2⟩ := truK_dp (dpF r1 o1) p1
    refine ⟨bb, t, ?_⟩
    cases bb with
    | true => exact iteT (k _ _ g1 H1 v p2 m1 r1 o1 f1)
    | false => exact iteF ⟨g1, env, c1, _, r1, p2, fun y c2 g2 H2 v2 p3 m2 r2 o2 f2 => k _ _ g2 H2 v2 p3 (m1.trans m2) r2 o2 f2⟩
end
end DL
namespace DL
open PySem PySem.Spec PyProof.Rows L2
/-! ### enumerate of a tuple -/
theorem meets_enum1 {v : Value} {o : Obj} {G : Heap → Prop} (B : Begins v o G) : Meets (Builtin.«enumerate.__new__» ⟨[.type "enumerate", v], []⟩) (fun _ R s => G s.heap ∧
    R (.ok (.ret (.ref (s.heap.push o).objs.size))) { s with heap := (s.heap.push o).push { cls := .type "enumerate", data := .fields #[.none, .bool false, .ref s.heap.objs.size, rawInt 0, .none, .none] } }) := by
  refine .of_wp fun prog w A R st hst => ?_
  obtain ⟨hp, gn, dr, tk, os⟩ := st
  obtain ⟨hg, hR⟩ := hst
  have hsub := sub_enumerate
  have go : ∀ {A' : Around} {E' : Value → Shared → Prop} {Q : Value → Shared → Prop}, Q (.ref hp.objs.size) ⟨hp.push o, gn, dr, tk, os⟩ → wpAny (model prog w) A' (pyIter v) Q E' ⟨hp, gn, dr, tk, os⟩ := fun q => B.iter prog w _ _ ⟨hp, gn, dr, tk, os⟩ _ hg q
  wp_walk using go
  refine wpAny_stack_any (fun stk => wpAny_pure ?_)
  split
  · rename_i cc _ _ _ _ _
    cases (cc == Value.type "enumerate") <;> (wp_walk using go; exact ⟨_, rfl, hR⟩)
  · wp_walk using go
    exact ⟨_, rfl, hR⟩
section
variable {prog : Program} {w : World} {A : Around} {E : Value → Shared → Prop} {s : Shared}
theorem enum_begins1 {v : Value} {o : Obj} {G : Heap → Prop} {Q : Value → Shared → Prop} (B : Begins v o G) (h1 : G s.heap)
    (h : ∀ h', IsEnum h' (s.heap.objs.size + 1) s.heap.objs.size 0 .none → h'.get? s.heap.objs.size = some o → h'.objs.size = s.heap.objs.size + 2 → (∀ b u, s.heap.get? b = some u → h'.get? b = some u) → Q (.ref (s.heap.objs.size + 1)) { s with heap := h' }) :
    wpAny (model prog w) A (call (.type "enumerate") [v]) Q E s := by
  refine callType_new F.called_enumerate (by decide) (F.typeCall_enumerate_1 _) (F.newCall_enumerate_1 _) (fun obj => F.args_object_init_2 obj _) F.entry_enumerate_new (meets_enum1 B) ⟨h1, ?_⟩
  have hz : (s.heap.push o).objs.size = s.heap.objs.size + 1 := Heap.size_push ..
  have he := Heap.get?_push_size (s.heap.push o) (o := { cls := .type "enumerate", data := .fields #[.none, .bool false, .ref s.heap.objs.size, rawInt 0, .none, .none] }) rfl
  rw [hz] at he
  show _ ∧ _
  rw [hz]
  exact ⟨⟨_, he, rfl⟩, h _ he (Heap.get?_push_of_some _ (Heap.get?_push_size _ B.free)) (by rw [Heap.size_push, hz]) fun b u x => Heap.get?_push_of_some _ (Heap.get?_push_of_some _ x)⟩
end
/-- the tuple at a, each item in a new pair with its place -/
def ItE (K : PySem.W.Frag) (a : Addr) : It where
  go := fun i H => ∃ (xs : List V) (x : V), SqT K H a xs ∧ xs[i]? = some x
  yld := fun i H v H' => ∃ T x, v = .ref T ∧ H T = none ∧ H' = upd H T (.tup [.int (i : Nat), x]) ∧ ∀ xs, SqT K H a xs → xs[i]? = some x
  stop := fun i H => ∃ xs : List V, SqT K H a xs ∧ xs.length = i
theorem iter_ne {h : Heap} {it a : Addr} {i : Nat} {its : Array Value} (h1 : h.IsTupleIter it a i) (h2 : h.IsTuple a its) : a ≠ it := fun z => by
  obtain ⟨o, e1, c1, _⟩ := h1
  obtain ⟨o2, e2, c2, _⟩ := h2
  rw [z, e1] at e2
  cases e2
  rw [c1] at c2
  simp at c2
theorem turn_enumT {P : Program} {w : World} {K : PySem.W.Frag} {elts : List Expr} {kk : Nat} {tpos : Pos} (a e it : Addr) (hae : a ≠ e) :
    Turn P w K (.Tuple elts kk tpos) (ItE K a) [e, it] e (fun i h => (∃ old, IsEnum h e it ((i : Nat) : Int) old) ∧ h.IsTupleIter it a i ∧ e ≠ it) where
  mem := List.mem_cons_self
  obj := fun i h st b hb => by
    obtain ⟨⟨old, he⟩, ⟨o, ho, hc, hd⟩, _⟩ := st
    rcases List.mem_cons.mp hb with z | z
    · rw [z]
      exact ⟨_, he, (fun v q => nomatch q)⟩
    · rw [List.mem_singleton.mp z]
      exact ⟨o, ho, fun v q => by rw [hd] at q; cases q⟩
  keep := fun i h h' st k => ⟨st.1.elim fun old he => ⟨old, k e List.mem_cons_self _ he⟩, st.2.1.at fun o q => k it (List.mem_cons_of_mem _ List.mem_cons_self) o q, st.2.2⟩
  item := by
    intro X hP hw hK hc i pins s σ H E I hf st hg
    subst hP hw hK
    obtain ⟨⟨old, he⟩, hit, hne⟩ := st
    obtain ⟨xs, x, hq, hx⟩ := hg
    obtain ⟨its, rv, pt, hz⟩ := I.tuple hq
    obtain ⟨u, hu, ru⟩ := rv.get hx
    have pt : s.heap.IsTuple a its.toArray := pt
    have hai : a ≠ it := iter_ne hit pt
    have hlt : i < its.toArray.size := by simpa using (List.getElem?_eq_some_iff.mp hu).1
    have hel : e < s.heap.objs.size := Heap.lt_size he
    have hil : it < s.heap.objs.size := by
      obtain ⟨_, q, _⟩ := hit
      exact Heap.lt_size q
    refine wpAny_pyNext_enum_itemC (Draws.tuple (A := X.A.in1) (I.ok.hd hc) it a hai its.toArray) he ⟨hit, pt⟩ hlt hne (by simp [hne, hae.symm]) fun x2 h' tk hP2 ho hst' hT hsz hk => ?_
    have ex : x2 = u := by
      have hP3 : its.toArray[i]? = some x2 := hP2
      rw [List.getElem?_toArray, hu] at hP3
      exact (Option.some.inj hP3).symm
    subst ex
    refine ⟨_, rfl, wpAny_letOwnedTupleGo_enum (s := { s with heap := h', toks := tk + 1 }) ho fun h'' he' sb => ?_⟩
    have hT2 : h''.get? s.heap.objs.size = some { cls := .type "tuple", data := .seq #[.int i tk, x2] } := (sb.2 _ (Nat.ne_of_gt hel)).trans hT
    have made : ObjOk X.prog X.w (upd H s.heap.objs.size (.tup [.int (i : Nat), x])) h'' s.heap.objs.size (.tup [.int (i : Nat), x]) := ⟨by show 2 ≤ sizeLine; decide, [.int i tk, x2], .cons ⟨_, rfl⟩ (.cons ru .nil), ⟨_, hT2, rfl, _, rfl⟩⟩
    have J : L2.Inv X pins σ (upd H s.heap.objs.size (.tup [.int (i : Nat), x])) { s with heap := h'', toks := tk + 1 } :=
      I.turnedNew (ch := [e, it]) (fun b ob hb q => (sb.2 b (fun z => hb (by simp [z]))).trans (hk b ob (fun z => hb (by simp [z])) (fun z => hb (by simp [z])) q)) hf (Nat.le_refl _) made
    refine ⟨.ref s.heap.objs.size, _, J, rfl, ⟨_, x, rfl, I.hok.fresh (Nat.le_refl _), rfl, fun ys hy => by rw [I.tuple_inj hy hq]; exact hx⟩, ⟨⟨x2, ?_⟩, hst'.1.at fun o q => (sb.2 it (Ne.symm hne)).trans q, hne⟩, fun b hb => ?_⟩
    · rw [show ((i + 1 : Nat) : Int) = (i : Int) + 1 by omega]
      exact he'
    · have hb' : b < s.heap.objs.size := by
        rcases List.mem_cons.mp hb with z | z
        · rw [z]
          exact hel
        · rw [List.mem_singleton.mp z]
          exact hil
      rw [upd_ne (Nat.ne_of_lt hb')]
      exact (hf b hb).1
  done := by
    intro X hP hw hK hc i pins s σ H E I hf st hg
    subst hP hw hK
    obtain ⟨⟨old, he⟩, hit, hne⟩ := st
    obtain ⟨xs, hq, hx⟩ := hg
    obtain ⟨its, rv, pt, hz⟩ := I.tuple hq
    have pt : s.heap.IsTuple a its.toArray := pt
    have hai : a ≠ it := iter_ne hit pt
    have hl := rv.length
    have hn : its.toArray.size = i := by
      rw [List.size_toArray]
      omega
    obtain ⟨f0, f1, f2, f3, f4, f5⟩ := hf it (List.mem_cons_of_mem _ List.mem_cons_self)
    subst hn
    exact wpAny_pyNext_enum_endD (Draws.tuple (A := X.A.in1) (I.ok.hd hc) it a hai its.toArray) he ⟨hit, pt⟩ fun h' eb => ⟨rfl, I.turned (t' := s.toks) (fun b o hb q => eb b o hb q) f0 f1 f3 f4 f5⟩
  self := fun A i s Q E st h => st.1.elim fun _ he => wpAny_pyIter_enum he h
theorem walk_enumT {K : PySem.W.Frag} {a : Addr} {xs : List V} : Walk (ItE K a) xs.length (fun H => SqT K H a xs) (YPair (fun i => some (.int (i : Nat))) (fun i => xs[i]?)) := by
  refine ⟨fun i H hi h => ⟨xs, xs[i], h, List.getElem?_eq_getElem hi⟩, fun H h => ⟨xs, h, rfl⟩, fun i H v H' hi h y => ?_⟩
  obtain ⟨T, x, e1, e2, e3, f1⟩ := y
  exact ⟨T, .int (i : Nat), x, e1, e2, e3, rfl, f1 xs h⟩
def enumD (ds : List PyData) : List PyData := (List.range ds.length).map fun i => .tuple [.int (i : Nat), ds.getD i .none]
def wEnumerateT (da : DA) : DI := fun env c P => da env c fun xs c1 => datsK xs fun ds => match ds with
  | [.tuple xs] => P (enumD xs) c1
  | _ => False
section
variable {X : Cx} {E : En} {a : Expr} {pos : Pos}
theorem dw_enumerateT {elts : List Expr} {kk : Nat} {dr : DA} {p tpos : Pos} (ha : DPA X E [a] dr) (hm : X.mg "enumerate" = none) (hg : Gl X "enumerate" := by rfl) (hs : starEach [a] X.env = [(false, eval a X.env)] := by rfl) :
    DPI X E (.Tuple elts kk tpos) (.Call (.Name "enumerate" p) [a] [] pos) (wEnumerateT dr) := by
  refine ⟨fun pins s σ H R I h => ?_⟩
  obtain ⟨g, env, c, P, rel, q, k⟩ := h
  refine Call_ (ld_blt I hg hm boot_enumerate (PyProof.Rows.callWith_type1 (thn (ha.run pos pins s σ H (fun vs H1 => ∃ g1 c1 ds, Rel X.K E g1 env c1 σ H1 ∧ Mv g H g1 H1 ∧ DpAll X.K g1.F vs [.tuple ds] ∧ P (enumD ds) c1) I ⟨g, env, c, _, rel, q, fun xs c1 g1 H1 vs p1 m1 r1 o1 f1 => ?_⟩) fun us s1 hq => ?_) hs rfl))
  · obtain ⟨ds, h1, h2⟩ := datsK_all o1 p1
    split at h1
    · exact ⟨g1, c1, _, r1, m1, h2, h1⟩
    · exact h1.elim
  · obtain ⟨vs, H1, I1, rv, g1, c1, ds, r1, m1, ha, hp⟩ := hq
    cases ha with
    | cons h1 t =>
      cases t
      cases h1 with
      | tup hsq hal =>
        cases rv with
        | cons ra rb =>
          cases rb
          cases ra
          rename_i ad xs
          have hsq1 := seqT r1.ex hsq
          obtain ⟨its, rvt, pt, hz⟩ := I1.tuple hsq1
          have pt : s1.heap.IsTuple ad its.toArray := pt
          have alt : ad < s1.heap.objs.size := by
            obtain ⟨o, e, _⟩ := id pt
            exact Heap.lt_size e
          refine enum_begins1 (begins_tuple ad its.toArray) pt fun h' he hit hsz hk => wpAny_pyIter_enum he ?_
          have I2 : L2.Inv X pins σ H1 { s1 with heap := h' } := I1.kept (t' := s1.toks) hk
          refine ⟨s1.heap.objs.size + 1, [s1.heap.objs.size + 1, s1.heap.objs.size], _, _, H1, rfl, I2, turn_enumT ad (s1.heap.objs.size + 1) s1.heap.objs.size (Nat.ne_of_lt (Nat.lt_succ_of_lt alt)), ⟨⟨.none, he⟩, ⟨_, hit, rfl, rfl⟩, Nat.succ_ne_self _⟩, fun b hb => ?_, ?_⟩
          · have hle : s1.heap.objs.size ≤ b := by
              rcases List.mem_cons.mp hb with z | z
              · rw [z]
                exact Nat.le_succ _
              · rw [List.mem_singleton.mp z]
                exact Nat.le_refl _
            exact I1.fpOk hle (I1.hok.fresh hle)
          · have hlen : xs.length = (enumD ds).length := by
              unfold enumD
              rw [List.length_map, List.length_range, DpAll.len hal]
            refine k _ c1 g1 H1 _ hp m1 r1 ⟨_, _, by rw [← hlen]; exact walk_enumT, fun g' H' m e => seqT e (seqT m hsq), fun i H2 x2 H3 d2 e y => ?_⟩
            obtain ⟨T, x, y, rfl, hT, rfl, hx, hy⟩ := y
            cases hx
            obtain ⟨dy, ey, py⟩ := DpAll.getV hal hy
            have hi : i < ds.length := (List.getElem?_eq_some_iff.mp ey).1
            have e2 : d2 = .tuple [.int (i : Nat), dy] := by
              unfold enumD at e
              rw [List.getElem?_map, List.getElem?_range hi, Option.map_some, List.getD_eq_getElem?_getD, ey] at e
              exact (Option.some.inj e).symm
            subst e2
            refine .inr ⟨T, _, hT, rfl, fun F hF hFT => .tup (.of upd_same) ?_⟩
            have sF : Same F (upd F T (.tup [.int (i : Nat), y])) := fun b o e => by
              rw [upd_ne (ne_of_none e hFT)]
              exact e
            exact .cons (.int _) (.cons (dp_mono (hF.trans sF) py) .nil)
end
end DL
namespace DL
open PySem PySem.Spec PyProof.Rows L2
/-! ### a tuple times a number -/
theorem tup_times1 (l : Addr) (items : Array Value) (n : Nat) (dd : Option Addr) (sl : Array (Option Value)) (u : Tok) :
    Meets (Builtin.«tuple.__mul__» ⟨[.ref l, .int 1 u], []⟩) (fun _ R s => s.heap.get? l = some { cls := .type "tuple", dict := dd, data := .seq items n, slots := sl } ∧ R (.ok (.ret (.ref l))) s) := by
  refine .of_wp fun prog w A R st hst => ?_
  obtain ⟨hp, gn, dr, tk, os⟩ := st
  obtain ⟨hl, hR⟩ := hst
  have f1 := AutoSeq1.idx_int
  wp_walk using wpAny_loadPart' hl
  exact ⟨_, rfl, hR⟩
theorem tup_times0 (l : Addr) (items : Array Value) (n : Nat) (dd : Option Addr) (sl : Array (Option Value)) (u : Tok) (hi : items.isEmpty = false) :
    Meets (Builtin.«tuple.__mul__» ⟨[.ref l, .int 0 u], []⟩) (fun _ R s => s.heap.get? l = some { cls := .type "tuple", dict := dd, data := .seq items n, slots := sl } ∧
      R (.ok (.ret (Value.ref s.heap.objs.size))) { s with heap := s.heap.push { cls := Value.type "tuple", data := Data.seq #[] } }) := by
  refine .of_wp fun prog w A R st hst => ?_
  obtain ⟨hp, gn, dr, tk, os⟩ := st
  obtain ⟨hl, hR⟩ := hst
  have f1 := AutoSeq1.idx_int
  have c1 : (items.isEmpty || (0 : Int) == 1) = false := by
    rw [hi]
    rfl
  wp_walk using wpAny_loadPart' hl
  exact ⟨_, rfl, hR⟩
def rRep01 (K : PySem.W.Frag) : R2 := fun x y H Q => ∃ l k xs, x = .ref l ∧ y = .int k ∧ SqT K H l xs ∧ xs ≠ [] ∧ ((k = 1 ∧ Q (.ref l) H) ∨ (k = 0 ∧ ∀ p, H p = none → Q (.ref p) (upd H p (.tup []))))
section
variable {X : Cx}
theorem op_rep01 : OpR X (binaryOp .Mult) (rRep01 X.K) := by
  intro pins s σ H x y v u Q I rx ry h
  obtain ⟨l, k, xs, rfl, rfl, hT, hne, q⟩ := h
  cases rx
  obtain ⟨t, rfl⟩ := ry
  obtain ⟨its, r, ⟨⟨cls, dd, data, sl⟩, ho, hc, n, hd⟩, hs⟩ := I.tuple hT
  simp only at hc hd
  subst hc hd
  have hi : its.toArray.isEmpty = false := by
    cases r with
    | nil => exact absurd rfl hne
    | cons a b => rfl
  rcases q with ⟨rfl, q⟩ | ⟨rfl, q⟩
  · exact wpAny_binaryOp_repeat_ref (T := "tuple") (U := "int") (by decide) ⟨_, ho, rfl⟩ (fun s' => typeIs_int s' 1 t) noFill_tuple_mul F.fills_int_mul F.slot_int_rmul repeat_tuple F.slot_int_index.lookup
      (call_meets F.slot_int_rmul (typeIs_int s 1 t) F.entry_int_rmul (F.args_int_rmul_2 _ _) (int_rmul_tuple 1 t l its.toArray n dd sl)
        ⟨ho, rfl, ⟨_, ho, rfl⟩, call_meets F.slot_tuple_mul ⟨_, ho, rfl⟩ F.entry_tuple_mul (F.args_tuple_mul_2 _ _) (tup_times1 l its.toArray n dd sl t) ⟨ho, ⟨.ref l, H, I, rfl, q⟩⟩⟩)
  · refine wpAny_binaryOp_repeat_ref (T := "tuple") (U := "int") (by decide) ⟨_, ho, rfl⟩ (fun s' => typeIs_int s' 0 t) noFill_tuple_mul F.fills_int_mul F.slot_int_rmul repeat_tuple F.slot_int_index.lookup
      (call_meets F.slot_int_rmul (typeIs_int s 0 t) F.entry_int_rmul (F.args_int_rmul_2 _ _) (int_rmul_tuple 0 t l its.toArray n dd sl)
        ⟨ho, rfl, ⟨_, ho, rfl⟩, call_meets F.slot_tuple_mul ⟨_, ho, rfl⟩ F.entry_tuple_mul (F.args_tuple_mul_2 _ _) (tup_times0 l its.toArray n dd sl t hi) ⟨ho, ?_⟩⟩)
    refine ⟨.ref s.heap.objs.size, _, I.laid (t' := s.toks) (o := .tup []) (fun b ob q => Heap.get?_push_of_some _ q) (Nat.le_refl _) ?_, rfl, q _ (I.hok.fresh (Nat.le_refl _))⟩
    exact ⟨Nat.zero_le _, [], .nil, IsTup.new _ _⟩
end
def rdMulU : PyData → PyData → (PyData → Prop) → Prop := fun d e P => match d, e with
  | .int i, .int j => CMul i j ∧ P (.int (i * j))
  | .tuple xs, .int k => xs ≠ [] ∧ 0 ≤ k ∧ k ≤ 1000 ∧ xs.length ≤ 1000 ∧ P (.tuple (List.replicate k.toNat xs).flatten)
  | _, _ => False
theorem DpAll.rep {K : PySem.W.Frag} {F : Hp} {xs : List V} {ds : List PyData} (h : DpAll K F xs ds) : ∀ n : Nat, DpAll K F (List.replicate n xs).flatten (List.replicate n ds).flatten
  | 0 => .nil
  | n + 1 => by
    rw [List.replicate_succ, List.replicate_succ, List.flatten_cons, List.flatten_cons]
    exact DpAll.app h (DpAll.rep h n)
theorem opd_mulU {K : PySem.W.Frag} : OpD K (fun x y H Q => rI CMul (fun i j => .int (i * j)) x y H Q ∨ (rRepT K x y H Q ∨ rRep01 K x y H Q)) rdMulU := by
  intro E g env c σ H x y d e P Q r hx hy q k
  unfold rdMulU at q
  split at q
  · exact .inl ⟨_, _, dp_int hx, dp_int hy, q.1, k _ g H _ q.2 (Mv.refl g H) r (.int _)⟩
  · rename_i xs kk
    obtain ⟨hne, h0, h1, hl, q⟩ := q
    cases hx with
    | tup hs ha =>
      rename_i a vs
      have hv : vs ≠ [] := fun z => by
        subst z
        cases ha
        exact hne rfl
      by_cases h2 : 2 ≤ kk
      · refine .inr (.inl ⟨_, kk, vs, rfl, dp_int hy, seqT r.ex hs, hv, h2, h1, by rw [DpAll.len ha]; exact hl, fun p hp => ?_⟩)
        obtain ⟨r2, m2⟩ := r.new (.tup _) hp
        exact k _ _ _ _ q m2 r2 (.tup (.of upd_same) (dpAll_mono m2.f (DpAll.rep ha _)))
      · refine .inr (.inr ⟨_, kk, vs, rfl, dp_int hy, seqT r.ex hs, hv, ?_⟩)
        have hk : kk = 1 ∨ kk = 0 := by omega
        rcases hk with rfl | rfl
        · refine .inl ⟨rfl, ?_⟩
          have q : P (.tuple (List.replicate 1 xs).flatten) := q
          rw [show (List.replicate 1 xs).flatten = xs by simp] at q
          exact k _ g H _ q (Mv.refl g H) r (.tup hs ha)
        · refine .inr ⟨rfl, fun p hp => ?_⟩
          obtain ⟨r2, m2⟩ := r.new (.tup []) hp
          exact k _ _ _ _ q m2 r2 (.tup (.of upd_same) .nil)
  · exact q.elim
section
variable {X : Cx} {E : En} {a b : Expr} {da db : DE} {pos : Pos}
theorem de_mulU (ha : DPE X E a da) (hb : DPE X E b db) : DPE X E (.BinOp a .Mult b pos) (dOp rdMulU da db) := de_op (OpR.or op_mul (OpR.or op_repT op_rep01)) opd_mulU ha hb
end
end DL
namespace DL
open PySem PySem.Spec PyProof.Rows L2
/-! ### while -/
def sWhile (t : DT) (db : DS) : DS := fun D env c => ∃ W : Nat → Ev → Nat → Prop, (∃ m, W m env c) ∧ ∀ m env c, W m env c →
  t env c fun b c1 => if b = true then db { nx := fun e c' => ∃ m', m' < m ∧ W m' e c', ct := fun e c' => ∃ m', m' < m ∧ W m' e c', bk := D.nx, rt := D.rt } env c1 else D.nx env c1
section
variable {X : Cx} {E : En} {a b : Expr} {da db : DE} {pos : Pos}
theorem ds_while {t : DT} {ds : DS} {body : List Stmt} (ht : DPT X E a t) (hb : DPSs X E body ds) (hp : PassesOwn (model X.prog X.w) X.A X.env X.xe := by exact PassesOwn.never) : DPS X E (.While a body [] pos) (sWhile t ds) := by
  refine ps_imp (ps_while hp ht hb) fun D σ H h => ?_
  obtain ⟨g, env, c, P, rel, ⟨W, ⟨m0, w0⟩, step⟩, k1, k2, k3, k4⟩ := h
  refine ⟨fun m σ' H' => ∃ g' env' c', Same g.F g'.F ∧ Rel X.K E g' env' c' σ' H' ∧ W m env' c', ⟨m0, g, env, c, Same.refl _, rel, w0⟩, ?_⟩
  rintro m σ' H' ⟨g', env', c', sm, r, w⟩
  refine ⟨g', env', c', _, r, step m env' c' w, fun b c1 g1 H1 p1 m1 r1 => ?_⟩
  cases b with
  | false => exact iteF (k1 env' c1 g1 σ' H1 p1 (sm.trans m1.f) r1)
  | true =>
    refine iteT ⟨fun σ2 H2 => ∃ m', m' < m ∧ ∃ g2 env2 c2, Same g.F g2.F ∧ Rel X.K E g2 env2 c2 σ2 H2 ∧ W m' env2 c2, fun σ2 H2 hN => hN, g1, env', c1, _, r1, p1, fun env2 c2 g2 σ2 H2 p2 m2 r2 => ?_, fun x c2 env2 g2 σ2 H2 v p2 m2 r2 => k2 x c2 env2 g2 σ2 H2 v p2 ((sm.trans m1.f).trans m2) r2, fun env2 c2 g2 σ2 H2 p2 m2 r2 => k1 env2 c2 g2 σ2 H2 p2 ((sm.trans m1.f).trans m2) r2, fun env2 c2 g2 σ2 H2 p2 m2 r2 => ?_⟩
    · obtain ⟨m', lt, w'⟩ := p2
      exact ⟨m', lt, g2, env2, c2, (sm.trans m1.f).trans m2, r2, w'⟩
    · obtain ⟨m', lt, w'⟩ := p2
      exact ⟨m', lt, g2, env2, c2, (sm.trans m1.f).trans m2, r2, w'⟩
/-! ### an own list read and written by place -/
def dOwnIx (i : Nat) (db : DE) : DE := fun env c P => match env[i]? with
  | some (some (.own l)) => db env c fun y c1 => datK y fun e => ixK l e fun z => P (.dat z) c1
  | _ => False
theorem de_ownIx (i : Nat) {x : Str} {p1 : Pos} (hb : DPE X E b db) (hN : X.N[i]? = some x := by rfl) (hv : Vis X.env.scope x := by first | exact Or.inl rfl | exact Or.inr (Or.inl rfl) | exact Or.inr (Or.inr rfl)) (h1 : (x == ("__debug__" : Str)) = false := by decide)
    (h2 : (x == ("__classdict__" : Str)) = false := by decide) (hs : PlainIx b := by exact fun _ _ => rfl) : DPE X E (.Subscript (.Name x p1) b pos) (dOwnIx i db) := by
  refine pe_imp (pe_ix ix_list (pe_var hN hv h1 h2) hb hs) fun σ H Q h => ?_
  obtain ⟨g, env, c, P, rel, q, k⟩ := h
  unfold dOwnIx at q
  split at q
  · rename_i l e
    obtain ⟨v, e1, p, xs, rfl, h3, h4, h5, h6⟩ := rel.sl i _ e
    refine ⟨_, e1, g, env, c, _, rel, q, fun y c1 g1 H1 w p1 m1 r1 o1 f1 => ?_⟩
    cases y with
    | deck => exact p1.elim
    | exc _ => exact p1.elim
    | own l => exact p1.elim
    | dat d =>
      have p2 : ixK l d fun z => P (.dat z) c1 := p1
      clear p1
      cases d <;> try exact p2.elim
      rename_i j
      have p1 : (match atI l j with | some z => P (.dat z) c1 | none => False) := p2
      cases hz : atI l j with
      | none => rw [hz] at p1; exact p1.elim
      | some z =>
        rw [hz] at p1
        obtain ⟨u, g1', g2⟩ := atI_dp (dpAll_mono m1.f h6) hz
        exact ⟨p, xs, j, u, rfl, dp_int o1, .of (m1.fr p _ h5 h4), g1', k _ _ g1 H1 u p1 m1 r1 g2 trivial⟩
  · exact q.elim
def sOwnSet (i : Nat) (da db : DE) : DS := fun D env c => da env c fun x c1 => datK x fun d => match env[i]? with
  | some (some (.own l)) => db env c1 fun y c2 => datK y fun e => intK e fun j => ∃ k, ixN l.length j = some k ∧ D.nx (env.set i (some (.own (l.set k d)))) c2
  | _ => False
theorem ds_ownSet (i : Nat) {x : Str} {p1 p2 : Pos} (ha : DPE X E a da) (hb : DPE X E b db) (hN : X.N[i]? = some x := by rfl) (hv : Vis X.env.scope x := by first | exact Or.inl rfl | exact Or.inr (Or.inl rfl) | exact Or.inr (Or.inr rfl)) (h1 : (x == ("__debug__" : Str)) = false := by decide)
    (h2 : (x == ("__classdict__" : Str)) = false := by decide) (hg : PG X (.Subscript (.Name x p1) b p2) (gSub (tVar i) (up X.K E db) rSetL) := by exact pg_sub (pe_var rfl (by first | exact Or.inl rfl | exact Or.inr (Or.inl rfl) | exact Or.inr (Or.inr rfl))) (by assumption) set_list)
    (hs : swapsWithSole [.Subscript (.Name x p1) b p2] a pos.line X.env = pure false := by rfl) (hw : swappedStores [.Subscript (.Name x p1) b p2] a X.env = pure none := by rfl)
    (h3 : (assignEach [.Subscript (.Name x p1) b p2] X.env).map (·.2) = [assign (.Subscript (.Name x p1) b p2) X.env] := by rfl) : DPS X E (.Assign [.Subscript (.Name x p1) b p2] a pos) (sOwnSet i da db) := by
  refine ps_imp (ps_asg ha hg hs hw h3) fun D σ H h => ?_
  obtain ⟨g, env, c, P, rel, q, k, _⟩ := h
  refine ⟨g, env, c, _, rel, q, fun x c1 g1 H1 v p1 m1 r1 o1 f1 => ?_⟩
  cases x with
  | deck => exact p1.elim
  | exc _ => exact p1.elim
  | own l => exact p1.elim
  | dat d =>
    have p1 : (match env[i]? with | some (some (.own l)) => db env c1 fun y c2 => datK y fun e => intK e fun j => ∃ k, ixN l.length j = some k ∧ P.nx (env.set i (some (.own (l.set k d)))) c2 | _ => False) := p1
    split at p1
    · rename_i l e
      obtain ⟨v2, e1, p, xs, rfl, h3, h4, h5, h6⟩ := r1.sl i _ e
      refine ⟨_, e1, g1, env, c1, _, r1, p1, fun y c2 g2 H2 w p2 m2 r2 o2 f2 => ?_⟩
      cases y with
      | deck => exact p2.elim
      | exc _ => exact p2.elim
      | own l => exact p2.elim
      | dat d2 =>
        cases d2 <;> try exact p2.elim
        obtain ⟨kk, hk, p2⟩ := p2
        refine ⟨p, xs, _, kk, rfl, dp_int o2, m2.fr p _ h5 h4, by rw [DpAll.len h6]; exact hk, k _ c2 g2 _ _ p2 (m1.f.trans m2.f) (r2.writeOwn i e e1 (DpAll.setV (dp_mono m2.f o1) kk (dpAll_mono m2.f h6)))⟩
    · exact p1.elim
/-! ### list(x), and x = list(y) -/
def rdList : List PyData → (PyData → Prop) → Prop := fun ds P => match ds with
  | [.list xs] => P (.list xs)
  | [.tuple xs] => P (.list xs)
  | _ => False
theorem cd_list {K : PySem.W.Frag} : CallD K (fun xs H Q => ∃ p ys, xs = [V.ref p] ∧ (SqL K H p ys ∨ SqT K H p ys) ∧ ∀ l, H l = none → Q (.ref l) (upd H l (.lst ys))) rdList := by
  intro E g env c σ H xs ds P Q r h q k
  unfold rdList at q
  split at q
  · cases h with
    | cons h1 t =>
      cases t
      cases h1 with
      | lst hs ha =>
        refine ⟨_, _, rfl, .inl (r.ex.seq hs), fun l hl => ?_⟩
        obtain ⟨r2, m2⟩ := r.new (.lst _) hl
        exact k _ _ _ _ q m2 r2 (.lst (.of upd_same) (dpAll_mono m2.f ha))
  · cases h with
    | cons h1 t =>
      cases t
      cases h1 with
      | tup hs ha =>
        refine ⟨_, _, rfl, .inr (seqT r.ex hs), fun l hl => ?_⟩
        obtain ⟨r2, m2⟩ := r.new (.lst _) hl
        exact k _ _ _ _ q m2 r2 (.lst (.of upd_same) (dpAll_mono m2.f ha))
  · exact q.elim
def sNewLst (i : Nat) (da : DE) : DS := fun D env c => da env c fun x c1 => datK x fun d => match d with
  | .list xs => D.nx (env.set i (some (.own xs))) c1
  | .tuple xs => D.nx (env.set i (some (.own xs))) c1
  | _ => False
theorem ds_newLst (i : Nat) {x : Str} {p1 p2 p3 : Pos} (hN : X.N.Nodup) (ha : DPE X E a da) (hm : X.mg "list" = none) (hi : X.N[i]? = some x := by rfl) (hx : Loc X.env.scope x := by first | exact Or.inl rfl | exact Or.inr rfl) (hg : Gl X "list" := by rfl)
    (he : starEach [a] X.env = (false, eval a X.env) :: starEach [] X.env := by rfl) (hpl : (backTo p3 (starEach [] X.env)).any (·.1) = false := by rfl)
    (hs : swapsWith (.Call (.Name "list" p2) [a] [] p3) (some (.Name x p1)) pos.line X.env = pure false := by rfl) (hf : X.fn x = true ∨ X.env.scope.names.lookup x = some .local := by first | exact .inl rfl | exact .inr rfl | assumption) :
    DPS X E (.Assign [.Name x p1] (.Call (.Name "list" p2) [a] [] p3) pos) (sNewLst i da) := by
  refine ps_imp (ps_set hN hi hx (pe_callTy call_list_of hg hm (by decide +kernel) (pa_cons ha pa_nil he) (by decide) (by decide) he hpl) hs hf) fun D σ H h => ?_
  obtain ⟨g, env, c, P, rel, q, k, _⟩ := h
  refine ⟨g, env, c, _, rel, q, fun x c1 g1 H1 v p1 m1 r1 o1 f1 => ?_⟩
  cases x with
  | deck => exact p1.elim
  | exc _ => exact p1.elim
  | own l => exact p1.elim
  | dat d =>
    cases d <;> try exact p1.elim
    · rename_i ds
      have o1 : Dp X.K g1.F v (.list ds) := o1
      cases o1 with
      | lst hsq hal => exact ⟨_, _, rfl, .inl (r1.ex.seq hsq), fun l hl => k _ c1 g1 _ _ p1 m1.f (r1.newOwn i hl hal)⟩
    · rename_i ds
      have o1 : Dp X.K g1.F v (.tuple ds) := o1
      cases o1 with
      | tup hsq hal => exact ⟨_, _, rfl, .inr (seqT r1.ex hsq), fun l hl => k _ c1 g1 _ _ p1 m1.f (r1.newOwn i hl hal)⟩
end
end DL
namespace DL
open PySem PySem.Spec PyProof.Rows L2
/-! ### list + list -/
def rCatL (K : PySem.W.Frag) : R2 := fun x y H Q => ∃ l b xs zs, x = .ref l ∧ y = .ref b ∧ SqL K H l xs ∧ SqL K H b zs ∧ xs.length + zs.length ≤ sizeLine ∧ ∀ p, H p = none → Q (.ref p) (upd H p (.lst (xs ++ zs)))
section
variable {X : Cx}
theorem op_catL : OpR X (binaryOp .Add) (rCatL X.K) := by
  intro pins s σ H x y v u Q I rx ry h
  obtain ⟨l, b, xs, zs, rfl, rfl, hH, hB, hz, q⟩ := h
  cases rx
  cases ry
  obtain ⟨its, r, ⟨⟨cls, dd, data, sl⟩, n, ho, hc, _, hd⟩, hl⟩ := I.list hH
  obtain ⟨its2, r2, ⟨⟨cls2, dd2, data2, sl2⟩, n2, ho2, hc2, _, hd2⟩, hl2⟩ := I.list hB
  simp only at hc hd hc2 hd2
  subst hc hd hc2 hd2
  have e : its.toArray ++ its2.toArray = (its ++ its2).toArray := by simp
  have z1 := r.length
  have z2 := r2.length
  refine concat_meets ⟨_, ho, rfl⟩ ⟨_, ho2, rfl⟩ noFill_list_add seq_list_add PySem.F.slot_list_add PySem.F.entry_list_add (PySem.F.args_list_add_2 _ _) (list_addW l b its.toArray its2.toArray n n2 dd dd2 sl sl2 (by simp only [List.size_toArray]; omega)) ⟨ho, ho2, ?_⟩
  rw [e]
  exact ⟨.ref _, _, I.lnew (t' := s.toks) (r.append r2) (by rw [List.length_append]; omega), rfl, q _ I.fresh⟩
end
/-- + of ints, of tuples, of lists -/
def rdAddX : PyData → PyData → (PyData → Prop) → Prop := fun d e P => match d, e with
  | .list xs, .list ys => xs.length + ys.length ≤ sizeLine ∧ P (.list (xs ++ ys))
  | d, e => rdAddU d e P
theorem opd_addX {K : PySem.W.Frag} : OpD K (fun x y H Q => rCatL K x y H Q ∨ (rI0 (fun i j => .int (i + j)) x y H Q ∨ rCatA K x y H Q)) rdAddX := by
  intro E g env c σ H x y d e P Q r hx hy q k
  unfold rdAddX at q
  split at q
  · cases hx with
    | lst h1 a1 =>
      cases hy with
      | lst h2 a2 =>
        refine .inl ⟨_, _, _, _, rfl, rfl, r.ex.seq h1, r.ex.seq h2, by rw [DpAll.len a1, DpAll.len a2]; exact q.1, fun p hp => ?_⟩
        obtain ⟨r2, m2⟩ := r.new (.lst _) hp
        exact k _ _ _ _ q.2 m2 r2 (.lst (.of upd_same) (DpAll.app (dpAll_mono m2.f a1) (dpAll_mono m2.f a2)))
  · exact .inr (opd_addU _ _ _ _ _ _ _ _ _ _ _ _ r hx hy q k)
section
variable {X : Cx} {E : En} {a b : Expr} {da db : DE} {pos : Pos}
theorem de_addX (ha : DPE X E a da) (hb : DPE X E b db) : DPE X E (.BinOp a .Add b pos) (dOp rdAddX da db) := de_op (OpR.or op_catL (OpR.or op_add op_catA)) opd_addX ha hb
/-! ### dicts -/
theorem de_dict0 : DPE X E (.Dict [] [] pos) (dC (.dict [])) := by
  refine pe_imp pe_dnewK fun σ H Q h => ?_
  obtain ⟨g, env, c, P, rel, q, k⟩ := h
  intro p hp
  obtain ⟨r2, m2⟩ := rel.new (.dK []) hp
  exact k _ _ _ _ _ q m2 r2 (Dp.dct (kvs := []) (ds := []) upd_same .nil) trivial
/-- {'text': constant} -/
theorem de_dict1 {x : Str} {v : V} {d : PyData} {j} {p1 : Pos} (hv : PE X b (tC v)) (hd : ∀ K F, Dp K F v d) : DPE X E (.Dict [some (.Constant (.str x) j p1)] [b] pos) (dC (.dict [(.str x, d)])) := by
  refine pe_imp (pe_disp (pps_cons pe_str hv |> fun f => f pps_nil) rfl rfl nofun (by simp)) fun σ H Q h => ?_
  obtain ⟨g, env, c, P, rel, q, k⟩ := h
  intro p hp
  refine ⟨upd_same, [(.inr x, v)], rfl, by simp, ?_⟩
  have e : upd (upd H p (.dK [])) p (.dK (mergeK [] [(.inr x, v)])) = upd H p (.dK [(.inr x, v)]) := by
    funext a
    by_cases h : a = p
    · subst h
      rw [upd_same, upd_same]
      rfl
    · rw [upd_ne h, upd_ne h, upd_ne h]
  rw [e]
  obtain ⟨r2, m2⟩ := rel.new (.dK [(.inr x, v)]) hp
  exact k _ _ _ _ _ q m2 r2 (Dp.dct (kvs := [(.inr x, v)]) (ds := [d]) upd_same (.cons (hd _ _) .nil)) trivial
end
end DL
namespace DL
open PySem PySem.Spec PyProof.Rows L2
/-! ### new lists, on their way into a slot -/
/-- the list at p is known to nobody -/
structure Frs (K : PySem.W.Frag) (E : En) (g : Gh) (H : Hp) (env : Ev) (σ : L2.St) (p : Addr) (l : List PyData) : Prop where
  at_ : ∃ xs, H p = some (.lst xs) ∧ DpAll K g.F xs l
  fF : g.F p = none
  nd : ¬ isDk g p
  eH : E.H p = none
  no : ∀ (j : Nat) (m : List PyData), env[j]? = some (some (.own m)) → σ[j]? ≠ some (some (.ref p))
section
variable {K : PySem.W.Frag} {E : En} {g g' : Gh} {env : Ev} {c : Nat} {σ : L2.St} {H H' : Hp} {p : Addr} {l : List PyData}
theorem Frs.mv (h : Frs K E g H env σ p l) (m : Mv g H g' H') : Frs K E g' H' env σ p l := by
  obtain ⟨xs, h1, h2⟩ := h.at_
  refine ⟨⟨xs, m.fr p _ h1 h.nd, dpAll_mono m.f h2⟩, ?_, fun z => h.nd (m.toMo.isDk z), h.eH, h.no⟩
  cases e : g'.F p with
  | none => rfl
  | some o =>
    rcases m.nf p o e with z | z
    · rw [h.fF] at z
      cases z
    · rw [h1] at z
      cases z
theorem Frs.of {xs : List V} (rel : Rel K E g env c σ H) (m : Mv g H g' H') (hp : H p = none) (hp' : H' p = some (.lst xs)) (hF : g'.F p = none) (ha : DpAll K g'.F xs l) : Frs K E g' H' env σ p l :=
  ⟨⟨xs, hp', ha⟩, hF, rel.noDk m hp, rel.oldN hp, fun j l e => rel.noOwn hp j l e⟩
/-- into slot i -/
theorem Rel.takeOwn (r : Rel K E g env c σ H) (i : Nat) (f : Frs K E g H env σ p l) : Rel K E g (env.set i (some (.own l))) c (σ.set i (some (.ref p))) H := by
  obtain ⟨xs, hp, ha⟩ := f.at_
  refine ⟨r.mo, r.md, r.mt, r.dn, r.nf, r.fr, fun j m e a ea => ?_, r.ex, fun j y e => ?_, fun j k lj lk a ne e1 e2 e3 e4 => ?_, r.dk, by simpa using r.len⟩
  · rcases set_get e with ⟨rfl, hl, _⟩ | ⟨ne, e2⟩
    · rw [List.getElem?_set_self (by rw [← r.len]; exact hl)] at ea
      cases ea
      exact f.eH
    · rw [List.getElem?_set_ne (Ne.symm ne)] at ea
      exact r.nw j m e2 a ea
  · rcases set_get e with ⟨rfl, hl, rfl⟩ | ⟨ne, e2⟩
    · exact ⟨.ref p, by rw [List.getElem?_set_self (by rw [← r.len]; exact hl)], p, xs, rfl, f.fF, f.nd, hp, ha⟩
    · obtain ⟨v, h1, h2⟩ := r.sl j y e2
      exact ⟨v, by rw [List.getElem?_set_ne (Ne.symm ne)]; exact h1, h2⟩
  · rcases set_get e1 with ⟨rfl, hl, _⟩ | ⟨n1, f1⟩
    · rw [List.getElem?_set_self (by rw [← r.len]; exact hl)] at e3
      cases e3
      rcases set_get e2 with ⟨z, _, _⟩ | ⟨n2, f2⟩
      · exact ne z.symm
      · rw [List.getElem?_set_ne (Ne.symm n2)] at e4
        exact f.no k lk f2 e4
    · rw [List.getElem?_set_ne (Ne.symm n1)] at e3
      rcases set_get e2 with ⟨rfl, hl, _⟩ | ⟨n2, f2⟩
      · rw [List.getElem?_set_self (by rw [← r.len]; exact hl)] at e4
        cases e4
        exact f.no j lj f1 e3
      · rw [List.getElem?_set_ne (Ne.symm n2)] at e4
        exact r.ap j k lj lk a ne f1 f2 e3 e4
/-- another list than the one that went into slot i -/
theorem Frs.other {q : Addr} {m : List PyData} {i : Nat} (r : Rel K E g env c σ H) (h : Frs K E g H env σ p l) (ne : p ≠ q) : Frs K E g H (env.set i (some (.own m))) (σ.set i (some (.ref q))) p l := by
  refine ⟨h.at_, h.fF, h.nd, h.eH, fun j n e z => ?_⟩
  rcases set_get e with ⟨rfl, hl, _⟩ | ⟨n1, f1⟩
  · rw [List.getElem?_set_self (by rw [← r.len]; exact hl)] at z
    cases z
    exact ne rfl
  · rw [List.getElem?_set_ne (Ne.symm n1)] at z
    exact h.no j n f1 z
end
/-! ### what makes a new list -/
def fLst (dr : DA) : DF := fun env c P => dr env c fun xs c1 => datsK xs fun ds => ds.length ≤ sizeLine ∧ P ds c1
def fList (da : DE) : DF := fun env c P => da env c fun x c1 => datK x fun d => match d with
  | .list xs => P xs c1
  | .tuple xs => P xs c1
  | _ => False
def fCat (da db : DE) : DF := fun env c P => da env c fun x c1 => datK x fun d => db env c1 fun y c2 => datK y fun e => match d, e with
  | .list xs, .list ys => xs.length + ys.length ≤ sizeLine ∧ P (xs ++ ys) c2
  | _, _ => False
def fSl (da : DE) (lo hi : DO) : DF := fun env c P => da env c fun x c1 => datK x fun d => lo env c1 fun l c2 => hi env c2 fun u c3 => match d with
  | .list ds => P (cutD ds l u) c3
  | _ => False
def fRev (da : DE) : DF := fun env c P => da env c fun x c1 => datK x fun d => match d with
  | .list ds => P ds.reverse c1
  | _ => False
theorem DpAll.rev {K : PySem.W.Frag} {F : Hp} : ∀ {vs : List V} {ds : List PyData}, DpAll K F vs ds → DpAll K F vs.reverse ds.reverse
  | _, _, .nil => .nil
  | _, _, .cons h t => by
    rw [List.reverse_cons, List.reverse_cons]
    exact DpAll.app (DpAll.rev t) (.cons h .nil)
section
variable {X : Cx} {E : En} {a b : Expr} {da db : DE} {pos : Pos}
/-- the end of each: data xs laid at p -/
theorem fresh_end {K : PySem.W.Frag} {g g1 : Gh} {env : Ev} {c1 : Nat} {P : List PyData → Nat → Prop} {σ : L2.St} {H H1 : Hp} {Q : VK} {xs : List V} {l : List PyData}
    (k : ∀ l c' g' H' p xs, P l c' → Mv g H g' H' → Rel K E g' env c' σ H' → H p = none → H' p = some (.lst xs) → g'.F p = none → DpAll K g'.F xs l → Q (.ref p) H')
    (hP : P l c1) (m1 : Mv g H g1 H1) (r1 : Rel K E g1 env c1 σ H1) (ha : DpAll K g1.F xs l) (p : Addr) (hp : H1 p = none) : Q (.ref p) (upd H1 p (.lst xs)) := by
  obtain ⟨r2, m2⟩ := r1.skip (.lst xs) hp
  refine k l c1 g1 _ p xs hP (m1.trans m2) r2 ?_ upd_same (r1.ex.free hp) ha
  cases w : H p with
  | none => rfl
  | some o =>
    obtain ⟨o', e⟩ := m1.lv p o w
    rw [hp] at e
    cases e
theorem df_lst {es : List Expr} {dr : DA} (h : DPA X E es dr) : DPF X E (.List es pos) (fLst dr) := by
  refine pe_imp (pe_lst h) fun σ H Q h => ?_
  obtain ⟨g, env, c, P, rel, q, k⟩ := h
  refine ⟨g, env, c, _, rel, q, fun xs c1 g1 H1 vs p1 m1 r1 o1 f1 => ?_⟩
  obtain ⟨ds, h1, h2⟩ := datsK_all o1 p1
  exact ⟨by rw [DpAll.len h2]; exact h1.1, fun p hp => fresh_end k h1.2 m1 r1 h2 p hp⟩
theorem df_list {p2 : Pos} (ha : DPE X E a da) (hm : X.mg "list" = none) (hg : Gl X "list" := by rfl)
    (he : starEach [a] X.env = (false, eval a X.env) :: starEach [] X.env := by rfl) (hpl : (backTo pos (starEach [] X.env)).any (·.1) = false := by rfl) : DPF X E (.Call (.Name "list" p2) [a] [] pos) (fList da) := by
  refine pe_imp (pe_callTy call_list_of hg hm (by decide +kernel) (pa_cons ha pa_nil he) (by decide) (by decide) he hpl) fun σ H Q h => ?_
  obtain ⟨g, env, c, P, rel, q, k⟩ := h
  refine ⟨g, env, c, _, rel, q, fun x c1 g1 H1 v p1 m1 r1 o1 f1 => ?_⟩
  cases x with
  | deck => exact p1.elim
  | exc _ => exact p1.elim
  | own l => exact p1.elim
  | dat d =>
    cases d <;> try exact p1.elim
    · rename_i ds
      have o1 : Dp X.K g1.F v (.list ds) := o1
      cases o1 with
      | lst hsq hal => exact ⟨_, _, rfl, .inl (r1.ex.seq hsq), fun p hp => fresh_end k p1 m1 r1 hal p hp⟩
    · rename_i ds
      have o1 : Dp X.K g1.F v (.tuple ds) := o1
      cases o1 with
      | tup hsq hal => exact ⟨_, _, rfl, .inr (seqT r1.ex hsq), fun p hp => fresh_end k p1 m1 r1 hal p hp⟩
theorem df_cat (ha : DPE X E a da) (hb : DPE X E b db) : DPF X E (.BinOp a .Add b pos) (fCat da db) := by
  refine pe_imp (pe_op op_catL ha hb) fun σ H Q h => ?_
  obtain ⟨g, env, c, P, rel, q, k⟩ := h
  refine ⟨g, env, c, _, rel, q, fun x c1 g1 H1 v p1 m1 r1 o1 f1 => ?_⟩
  cases x with
  | deck => exact p1.elim
  | exc _ => exact p1.elim
  | own l => exact p1.elim
  | dat d =>
    refine ⟨g1, env, c1, _, r1, p1, fun y c2 g2 H2 u p2 m2 r2 o2 f2 => ?_⟩
    cases y with
    | deck => exact p2.elim
    | exc _ => exact p2.elim
    | own l => exact p2.elim
    | dat e =>
      cases d <;> try exact p2.elim
      rename_i xs
      cases e <;> try exact p2.elim
      rename_i ys
      have o1 : Dp X.K g2.F v (.list xs) := dp_mono m2.f o1
      have o2 : Dp X.K g2.F u (.list ys) := o2
      cases o1 with
      | lst s1 a1 =>
        cases o2 with
        | lst s2 a2 => exact ⟨_, _, _, _, rfl, rfl, r2.ex.seq s1, r2.ex.seq s2, by rw [DpAll.len a1, DpAll.len a2]; exact p2.1, fun p hp => fresh_end k p2.2 (m1.trans m2) r2 (DpAll.app a1 a2) p hp⟩
theorem df_sl {lo hi : Option Expr} {dl dh : DO} {p2 : Pos} (h : DPE X E a da) (hl : DPO X E lo dl) (hu : DPO X E hi dh) : DPF X E (.Subscript a (.Slice lo hi none p2) pos) (fSl da dl dh) := by
  refine pe_imp (pe_slice sl_list h hl hu) fun σ H Q h => ?_
  obtain ⟨g, env, c, P, rel, q, k⟩ := h
  refine ⟨g, env, c, _, rel, q, fun x c1 g1 H1 v p1 m1 r1 o1 f1 => ?_⟩
  cases x with
  | deck => exact p1.elim
  | exc _ => exact p1.elim
  | own l => exact p1.elim
  | dat d =>
    refine ⟨g1, env, c1, _, r1, p1, fun l c2 g2 H2 p2 m2 r2 => ⟨g2, env, c2, _, r2, p2, fun u c3 g3 H3 p3 m3 r3 => ?_⟩⟩
    cases d <;> try exact p3.elim
    rename_i ds
    have o1 : Dp X.K g1.F v (.list ds) := o1
    have o3 := dp_mono (m2.trans m3).f o1
    cases o3 with
    | lst hs ha => exact ⟨_, _, rfl, r3.ex.seq hs, fun p hp => fresh_end k p3 (m1.trans (m2.trans m3)) r3 (dpAll_cut ha l u) p hp⟩
theorem df_rev {kk : Nat} {p1 p2 p3 : Pos} (h : DPE X E a da) : DPF X E (.Subscript a (.Slice none none (some (.UnaryOp .USub (.Constant (.int 1) kk p1) p2)) p3) pos) (fRev da) := by
  refine pe_imp (pe_revL h) fun σ H Q h => ?_
  obtain ⟨g, env, c, P, rel, q, k⟩ := h
  refine ⟨g, env, c, _, rel, q, fun x c1 g1 H1 v p1 m1 r1 o1 f1 => ?_⟩
  cases x with
  | deck => exact p1.elim
  | exc _ => exact p1.elim
  | own l => exact p1.elim
  | dat d =>
    cases d <;> try exact p1.elim
    rename_i ds
    have o1 : Dp X.K g1.F v (.list ds) := o1
    cases o1 with
    | lst hs ha => exact ⟨_, _, rfl, r1.ex.seq hs, fun p hp => fresh_end k p1 m1 r1 (DpAll.rev ha) p hp⟩
/-- a new list as a value -/
def dF (dt : DF) : DE := fun env c P => dt env c fun l c' => P (.dat (.list l)) c'
theorem de_f {dt : DF} (h : DPF X E a dt) : DPE X E a (dF dt) := pe_imp h fun _ _ _ q => f_up q
/-! ### x = a new list; x, y = .. -/
def sOwn (i : Nat) (dt : DF) : DS := fun D env c => dt env c fun l c1 => D.nx (env.set i (some (.own l))) c1
theorem ds_own (i : Nat) {x : Str} {p2 : Pos} {dt : DF} (hN : X.N.Nodup) (h : DPF X E a dt) (hi : X.N[i]? = some x := by rfl) (hx : Loc X.env.scope x := by first | exact Or.inl rfl | exact Or.inr rfl) (hs : swapsWith a (some (.Name x p2)) pos.line X.env = pure false := by rfl) (hf : X.fn x = true ∨ X.env.scope.names.lookup x = some .local := by first | exact .inl rfl | exact .inr rfl | assumption) :
    DPS X E (.Assign [.Name x p2] a pos) (sOwn i dt) := by
  refine ps_imp (ps_set hN hi hx h hs hf) fun D σ H h => ?_
  obtain ⟨g, env, c, P, rel, q, k, _⟩ := h
  refine ⟨g, env, c, _, rel, q, fun l c1 g1 H1 p xs hl m1 r1 hp hp' hF ha => ?_⟩
  exact k _ c1 g1 _ H1 hl m1.f (r1.takeOwn i (Frs.of rel m1 hp hp' hF ha))
def sParF (i j : Nat) (dt : DF) (db : DE) : DS := fun D env c => dt env c fun l c1 => db env c1 fun y c2 => D.nx ((env.set i (some (.own l))).set j (some y)) c2
def sParFF (i j : Nat) (dt du : DF) : DS := fun D env c => dt env c fun l c1 => du env c1 fun m c2 => D.nx ((env.set i (some (.own l))).set j (some (.own m))) c2
variable {px py pt : Pos} {kt : Nat} {k2 : Nat} {pt2 : Pos} {x y : Str}
theorem ds_parF (i j : Nat) {dt : DF} (hN : X.N.Nodup) (h : DPF X E a dt) (hb : DPE X E b db) (hij : i ≠ j := by decide) (hi : X.N[i]? = some x := by rfl) (hj : X.N[j]? = some y := by rfl)
    (hx : X.env.scope.names.lookup x = some .local := by rfl) (hy : X.env.scope.names.lookup y = some .local := by rfl) (hc : X.calm = true := by rfl)
    (hw : swappedStores [.Tuple [.Name x px, .Name y py] kt pt] (.Tuple [a, b] k2 pt2) X.env = pure (some [x, y]) := by rfl)
    (hs : swapsWithSole [.Tuple [.Name x px, .Name y py] kt pt] (.Tuple [a, b] k2 pt2) pos.line X.env = pure false := by rfl)
    (he : starEach [a, b] X.env = (false, eval a X.env) :: starEach [b] X.env := by rfl) (he2 : starEach [b] X.env = (false, eval b X.env) :: starEach [] X.env := by rfl) : DPS X E (.Assign [.Tuple [.Name x px, .Name y py] kt pt] (.Tuple [a, b] k2 pt2) pos) (sParF i j dt db) := by
  refine ps_imp (ps_par hc hN hi hj hij hx hy (pa_cons h (pa_cons hb pa_nil he2) he) hw hs) fun D σ H h => ?_
  obtain ⟨g, env, c, P, rel, q, k, _⟩ := h
  refine ⟨g, env, c, _, rel, q, fun l c1 g1 H1 p xs hl m1 r1 hp hp' hF ha => ⟨g1, env, c1, _, r1, hl, fun y c2 g2 H2 v p2 m2 r2 o2 f2 => ⟨.ref p, v, rfl, ?_⟩⟩⟩
  exact k _ c2 g2 _ H2 p2 (m1.f.trans m2.f) ((r2.takeOwn i ((Frs.of rel m1 hp hp' hF ha).mv m2)).set j o2 f2)
theorem ds_parFF (i j : Nat) {dt du : DF} (hN : X.N.Nodup) (h : DPF X E a dt) (hb : DPF X E b du) (hij : i ≠ j := by decide) (hi : X.N[i]? = some x := by rfl) (hj : X.N[j]? = some y := by rfl)
    (hx : X.env.scope.names.lookup x = some .local := by rfl) (hy : X.env.scope.names.lookup y = some .local := by rfl) (hc : X.calm = true := by rfl)
    (hw : swappedStores [.Tuple [.Name x px, .Name y py] kt pt] (.Tuple [a, b] k2 pt2) X.env = pure (some [x, y]) := by rfl)
    (hs : swapsWithSole [.Tuple [.Name x px, .Name y py] kt pt] (.Tuple [a, b] k2 pt2) pos.line X.env = pure false := by rfl)
    (he : starEach [a, b] X.env = (false, eval a X.env) :: starEach [b] X.env := by rfl) (he2 : starEach [b] X.env = (false, eval b X.env) :: starEach [] X.env := by rfl) : DPS X E (.Assign [.Tuple [.Name x px, .Name y py] kt pt] (.Tuple [a, b] k2 pt2) pos) (sParFF i j dt du) := by
  refine ps_imp (ps_par hc hN hi hj hij hx hy (pa_cons h (pa_cons hb pa_nil he2) he) hw hs) fun D σ H h => ?_
  obtain ⟨g, env, c, P, rel, q, k, _⟩ := h
  refine ⟨g, env, c, _, rel, q, fun l c1 g1 H1 p xs hl m1 r1 hp hp' hF ha => ⟨g1, env, c1, _, r1, hl, fun l2 c2 g2 H2 p2 xs2 hl2 m2 r2 hq hq' hF2 ha2 => ⟨.ref p, .ref p2, rfl, ?_⟩⟩⟩
  have f1 := (Frs.of rel m1 hp hp' hF ha).mv m2
  have f2 := Frs.of r1 m2 hq hq' hF2 ha2
  have ne : p2 ≠ p := fun z => by
    rw [z, hp'] at hq
    cases hq
  exact k _ c2 g2 _ H2 hl2 (m1.f.trans m2.f) ((r2.takeOwn i f1).takeOwn j (f2.other r2 ne))
/-! ### len(x) of an own list -/
def dOwnLen (i : Nat) : DE := fun env c P => match env[i]? with
  | some (some (.own l)) => P (.dat (.int l.length)) c
  | _ => False
theorem de_ownLen (i : Nat) {x : Str} {p1 p2 : Pos} (hm : X.mg "len" = none) (hN : X.N[i]? = some x := by rfl) (hv : Vis X.env.scope x := by first | exact Or.inl rfl | exact Or.inr (Or.inl rfl) | exact Or.inr (Or.inr rfl)) (h1 : (x == ("__debug__" : Str)) = false := by decide)
    (h2 : (x == ("__classdict__" : Str)) = false := by decide) (hg : Gl X "len" := by rfl)
    (he : starEach [.Name x p1] X.env = (false, eval (.Name x p1) X.env) :: starEach [] X.env := by rfl) (hpl : (backTo pos (starEach [] X.env)).any (·.1) = false := by rfl) : DPE X E (.Call (.Name "len" p2) [.Name x p1] [] pos) (dOwnLen i) := by
  refine pe_imp (pe_callB call_len_seq hg hm PySem.boot_len (pa_cons (pe_var hN hv h1 h2) pa_nil he) (by decide) (by decide) he hpl) fun σ H Q h => ?_
  obtain ⟨g, env, c, P, rel, q, k⟩ := h
  unfold dOwnLen at q
  split at q
  · rename_i l e
    obtain ⟨v, e1, p, xs, rfl, h3, h4, h5, h6⟩ := rel.sl i _ e
    refine ⟨_, e1, p, xs, rfl, .inl (.of h5), ?_⟩
    rw [DpAll.len h6]
    exact k _ c g H _ q (Mv.refl g H) rel (.int _) trivial
  · exact q.elim
end
/-! ### sum, max, min, abs -/
theorem cr_or {X : Cx} {f : Value} {r r' : List V → Hp → VK → Prop} (h : CallR X f r) (h' : CallR X f r') : CallR X f (fun xs H Q => r xs H Q ∨ r' xs H Q) := by
  intro pins s σ H vs us Q I rv q
  rcases q with q | q
  · exact h pins s σ H vs us Q I rv q
  · exact h' pins s σ H vs us Q I rv q
def rSumT (K : PySem.W.Frag) : List V → Hp → VK → Prop := fun vs H Q => ∃ (a : Addr) (ns : List Int), vs = [V.ref a] ∧ SqT K H a (ns.map V.int) ∧ Q (.int ns.sum) H
theorem cr_sumT {X : Cx} (hc : X.calm = true) : CallR X (.builtin "sum") (rSumT X.K) := by
  intro pins s σ H vs us Q I r h
  obtain ⟨a, ns, rfl, hs, q⟩ := h
  obtain ⟨its, rv, hl, _⟩ := I.tuple hs
  rw [Vals.ref1 r]
  obtain ⟨xs, e⟩ := rv.ints.allInts.items
  have hn : numsOf (intItems xs).toList = ns := by rw [← e]; exact rv.ints.numsOf
  rw [nums_intItems] at hn
  have hl2 : s.heap.IsTuple a (intItems xs) := by rw [← e]; exact hl
  refine PySem.W.ktm_sumG (I.ok.hd hc) hl2 fun h' tk t' hk => ?_
  rw [preSum_eq, List.take_of_length_le (by simp), hn]
  exact ⟨.int _, H, I.kept hk, ⟨_, rfl⟩, q⟩
def rdSumA : List PyData → (PyData → Prop) → Prop := fun ds P => match ds with
  | [.list xs] => ∃ ns, intsOf xs = some ns ∧ P (.int ns.sum)
  | [.tuple xs] => ∃ ns, intsOf xs = some ns ∧ P (.int ns.sum)
  | _ => False
theorem cd_sumA {K : PySem.W.Frag} : CallD K (fun xs H Q => rSum K xs H Q ∨ rSumT K xs H Q) rdSumA := by
  intro E g env c σ H xs ds P Q r h q k
  unfold rdSumA at q
  split at q
  · cases h with
    | cons h1 t =>
      cases t
      cases h1 with
      | lst hs ha =>
        obtain ⟨ns, e, q⟩ := q
        have ex := intsOf_dp e ha
        subst ex
        exact .inl ⟨_, ns, rfl, r.ex.seq hs, k _ g H _ q (Mv.refl g H) r (.int _)⟩
  · cases h with
    | cons h1 t =>
      cases t
      cases h1 with
      | tup hs ha =>
        obtain ⟨ns, e, q⟩ := q
        have ex := intsOf_dp e ha
        subst ex
        exact .inr ⟨_, ns, rfl, seqT r.ex hs, k _ g H _ q (Mv.refl g H) r (.int _)⟩
  · exact q.elim
/-- max and min of two numbers, or of a list -/
def rdMaxA : List PyData → (PyData → Prop) → Prop := fun ds P => match ds with
  | [.int i, .int j] => P (.int (max i j))
  | [.list xs] => ∃ ns, intsOf xs = some ns ∧ 0 < ns.length ∧ ∀ m, m ∈ ns → (∀ y, y ∈ ns → y ≤ m) → P (.int m)
  | _ => False
def rdMinA : List PyData → (PyData → Prop) → Prop := fun ds P => match ds with
  | [.int i, .int j] => P (.int (min i j))
  | [.list xs] => ∃ ns, intsOf xs = some ns ∧ 0 < ns.length ∧ ∀ m, m ∈ ns → (∀ y, y ∈ ns → m ≤ y) → P (.int m)
  | _ => False
theorem cd_maxA {K : PySem.W.Frag} : CallD K (fun xs H Q => (∃ i j, xs = [V.int i, V.int j] ∧ Q (.int (if j > i then j else i)) H) ∨ rMax K xs H Q) rdMaxA := by
  intro E g env c σ H xs ds P Q r h q k
  unfold rdMaxA at q
  split at q
  · exact .inl (cd_max2 E g env c σ H xs _ P Q r h q k)
  · cases h with
    | cons h1 t =>
      cases t
      cases h1 with
      | lst hs ha =>
        obtain ⟨ns, e, hl, q⟩ := q
        have ex := intsOf_dp e ha
        subst ex
        exact .inr ⟨_, ns, rfl, r.ex.seq hs, hl, fun m h1 h2 => k _ g H _ (q m h1 h2) (Mv.refl g H) r (.int _)⟩
  · exact q.elim
theorem cd_minA {K : PySem.W.Frag} : CallD K (fun xs H Q => (∃ i j, xs = [V.int i, V.int j] ∧ Q (.int (if j < i then j else i)) H) ∨ rMin K xs H Q) rdMinA := by
  intro E g env c σ H xs ds P Q r h q k
  unfold rdMinA at q
  split at q
  · exact .inl (cd_min2 E g env c σ H xs _ P Q r h q k)
  · cases h with
    | cons h1 t =>
      cases t
      cases h1 with
      | lst hs ha =>
        obtain ⟨ns, e, hl, q⟩ := q
        have ex := intsOf_dp e ha
        subst ex
        exact .inr ⟨_, ns, rfl, r.ex.seq hs, hl, fun m h1 h2 => k _ g H _ (q m h1 h2) (Mv.refl g H) r (.int _)⟩
  · exact q.elim
def rdAbs : List PyData → (PyData → Prop) → Prop := fun ds P => match ds with
  | [.int i] => P (.int (if i < 0 then -i else i))
  | _ => False
theorem cd_abs {K : PySem.W.Frag} : CallD K (fun xs H Q => ∃ i, xs = [V.int i] ∧ Q (.int (if i < 0 then -i else i)) H) rdAbs := by
  intro E g env c σ H xs ds P Q r h q k
  unfold rdAbs at q
  split at q
  · cases h with
    | cons h1 t =>
      cases t
      have e1 := dp_int h1
      subst e1
      exact ⟨_, rfl, k _ g H _ q (Mv.refl g H) r (.int _)⟩
  · exact q.elim
/-! ### zip of two lists -/
def wZipL (da : DA) : DI := fun env c P => da env c fun xs c1 => datsK xs fun ds => match ds with
  | [.list xs, .list ys] => P ((xs.zip ys).map fun z => .tuple [z.1, z.2]) c1
  | _ => False
section
variable {X : Cx} {E : En} {a b : Expr} {da db : DE} {pos : Pos}
theorem walk_zipL {K : PySem.W.Frag} {a b : Addr} {xs ys : List V} {n : Nat} (hn : n = min xs.length ys.length) : Walk (Itz K a b) n (fun H => SqL K H a xs ∧ SqL K H b ys) (YPair (fun i => xs[i]?) (fun i => ys[i]?)) := by
  refine ⟨fun i H hi h => ⟨xs, ys, xs[i]'(by omega), ys[i]'(by omega), h.1, h.2, List.getElem?_eq_getElem _, List.getElem?_eq_getElem _⟩, fun H h => ⟨xs, ys, h.1, h.2, by omega⟩, fun i H v H' hi h y => ?_⟩
  obtain ⟨T, x, y, e1, e2, e3, f1, f2⟩ := y
  exact ⟨T, x, y, e1, e2, e3, f1 xs h.1, f2 ys h.2⟩
theorem dw_zipL {elts : List Expr} {kk : Nat} {dr : DA} {p tpos : Pos} (ha : DPA X E [a, b] dr) (hm : X.mg "zip" = none) (hg : Gl X "zip" := by rfl) (hs : starEach [a, b] X.env = (false, eval a X.env) :: starEach [b] X.env := by rfl) (hpl : (backTo pos (starEach [b] X.env)).any (·.1) = false := by rfl) :
    DPI X E (.Tuple elts kk tpos) (.Call (.Name "zip" p) [a, b] [] pos) (wZipL dr) := by
  refine pi_imp (RZ.pi_zipA hg hm ha hs hpl) fun σ H R h => ?_
  obtain ⟨g, env, c, P, rel, q, k⟩ := h
  refine ⟨g, env, c, _, rel, q, fun xs c1 g1 H1 vs p1 m1 r1 o1 f1 => ?_⟩
  obtain ⟨ds, h1, h2⟩ := datsK_all o1 p1
  split at h1
  · rename_i us ws
    cases h2 with
    | cons h3 t =>
      cases t with
      | cons h4 t =>
        cases t
        cases h3 with
        | lst s1 a1 =>
          cases h4 with
          | lst s2 a2 =>
            refine ⟨_, _, _, _, rfl, .inl ⟨r1.ex.seq s1, r1.ex.seq s2, k _ c1 g1 H1 _ h1 m1 r1 ⟨_, _, walk_zipL (by rw [List.length_map, List.length_zip, DpAll.len a1, DpAll.len a2]), fun g' H' m e => ⟨e.seq (m.seq s1), e.seq (m.seq s2)⟩, fun i H2 x2 H3 d2 e y => ?_⟩⟩⟩
            obtain ⟨T, x, y, rfl, hT, rfl, hx, hy⟩ := y
            obtain ⟨dx, ex, px⟩ := DpAll.getV a1 hx
            obtain ⟨dy, ey, py⟩ := DpAll.getV a2 hy
            have e2 : d2 = .tuple [dx, dy] := by
              rw [List.getElem?_map, (List.getElem?_zip_eq_some (z := (dx, dy))).mpr ⟨ex, ey⟩] at e
              exact (Option.some.inj e).symm
            subst e2
            refine .inr ⟨T, _, hT, rfl, fun F hF hFT => .tup (.of upd_same) ?_⟩
            have sF : Same F (upd F T (.tup [x, y])) := fun b o e => by
              rw [upd_ne (ne_of_none e hFT)]
              exact e
            exact .cons (dp_mono (hF.trans sF) px) (.cons (dp_mono (hF.trans sF) py) .nil)
  · exact h1.elim
/-! ### a module's constant -/
theorem de_glob {x : Str} {i : Int} {u : Value} (hm : X.mg x = some u) (hu : RelV (.int i) u) (hg : Gl X x := by rfl) (hd : (x == ("__debug__" : Str)) = false := by decide) : DPE X E (.Name x pos) (dC (.int i)) := de_c (pe_glob hg hm hu hd) fun _ _ => .int i
end
end DL
namespace DL
open PySem PySem.Spec PyProof.Rows L2
section
variable {X : Cx} {E : En} {a b : Expr} {da db : DE} {pos : Pos} {px py pt : Pos} {kt : Nat} {k2 : Nat} {pt2 : Pos} {x y : Str}
/-- the same where one of the two names stands in a cell: by way of a tuple -/
theorem ds_parFc (i j : Nat) {dt : DF} (hN : X.N.Nodup) (h : DPF X E a dt) (hb : DPE X E b db) (hij : i ≠ j := by decide) (hi : X.N[i]? = some x := by rfl) (hj : X.N[j]? = some y := by rfl)
    (hx : Loc X.env.scope x := by first | exact Or.inl rfl | exact Or.inr rfl) (hy : Loc X.env.scope y := by first | exact Or.inl rfl | exact Or.inr rfl) (hc : X.calm = true := by rfl)
    (hfx : X.fn x = true ∨ X.env.scope.names.lookup x = some .local := by first | exact .inl rfl | exact .inr rfl | assumption) (hfy : X.fn y = true ∨ X.env.scope.names.lookup y = some .local := by first | exact .inl rfl | exact .inr rfl | assumption)
    (hg : PG X (.Tuple [.Name x px, .Name y py] kt pt) (gTup X.K 2 (gCons (gName i) (gCons (gName j) gNil))) := by exact pg_tup rfl (pgs_cons (pg_name (by assumption) rfl (by first | exact Or.inl rfl | exact Or.inr rfl)) (pgs_cons (pg_name (by assumption) rfl (by first | exact Or.inl rfl | exact Or.inr rfl)) pgs_nil)))
    (hs : swapsWithSole [.Tuple [.Name x px, .Name y py] kt pt] (.Tuple [a, b] k2 pt2) pos.line X.env = pure false := by rfl) (hw : swappedStores [.Tuple [.Name x px, .Name y py] kt pt] (.Tuple [a, b] k2 pt2) X.env = pure none := by rfl)
    (h3 : (assignEach [.Tuple [.Name x px, .Name y py] kt pt] X.env).map (·.2) = [assign (.Tuple [.Name x px, .Name y py] kt pt) X.env] := by rfl)
    (he : starEach [a, b] X.env = (false, eval a X.env) :: starEach [b] X.env := by rfl) (he2 : starEach [b] X.env = (false, eval b X.env) :: starEach [] X.env := by rfl) : DPS X E (.Assign [.Tuple [.Name x px, .Name y py] kt pt] (.Tuple [a, b] k2 pt2) pos) (sParF i j dt db) := by
  refine ps_imp (ps_asg (pe_tup (pa_cons h (pa_cons hb pa_nil he2) he)) hg hs hw h3) fun D σ H h => ?_
  obtain ⟨g, env, c, P, rel, q, k, _⟩ := h
  refine ⟨g, env, c, _, rel, q, fun l c1 g1 H1 p xs hl m1 r1 hp hp' hF ha => ⟨g1, env, c1, _, r1, hl, fun y c2 g2 H2 v p2 m2 r2 o2 f2 => ?_⟩⟩
  refine ⟨by show 2 ≤ sizeLine; decide, fun T hT => ⟨T, _, rfl, .of upd_same, rfl, .ref p, _, rfl, v, _, rfl, rfl, ?_⟩⟩
  obtain ⟨r3, m3⟩ := r2.skip (.tup [.ref p, v]) hT
  exact k _ c2 g2 _ _ p2 (m1.f.trans m2.f) ((r3.takeOwn i ((Frs.of rel m1 hp hp' hF ha).mv (m2.trans m3))).set j (VOk.mono m3.toMo f2 o2) f2)
/-- x[b] = a, of an own list -/
theorem ds_ownSetB (i : Nat) {p1 p2 : Pos} (ha : DPE X E a da) (hb : DPE X E b db) (hN : X.N[i]? = some x := by rfl) (hv : Vis X.env.scope x := by first | exact Or.inl rfl | exact Or.inr (Or.inl rfl) | exact Or.inr (Or.inr rfl)) (h1 : (x == ("__debug__" : Str)) = false := by decide)
    (h2 : (x == ("__classdict__" : Str)) = false := by decide)
    (has : ∀ v, assign (.Subscript (.Name x p1) b p2) X.env v = (do
      let ov ← holding [v] (eval (.Name x p1) X.env)
      let iv ← holding [v, ov] (eval b X.env)
      standAt p2
      holding [v, ov, iv] (setItem ov iv v)
      release [v, ov, iv] []) := by intro _; rfl)
    (hs : swapsWithSole [.Subscript (.Name x p1) b p2] a pos.line X.env = pure false := by rfl) (hw : swappedStores [.Subscript (.Name x p1) b p2] a X.env = pure none := by rfl)
    (h3 : (assignEach [.Subscript (.Name x p1) b p2] X.env).map (·.2) = [assign (.Subscript (.Name x p1) b p2) X.env] := by rfl) : DPS X E (.Assign [.Subscript (.Name x p1) b p2] a pos) (sOwnSet i da db) :=
  ds_ownSet i ha hb hN hv h1 h2 (pg_sub (pe_var hN hv h1 h2) hb set_list has) hs hw h3
end
/-! [..] as a new list -/
section
variable {X : Cx} {E : En} {tg a elt : Expr} {pos : Pos}
theorem df_lc {ifs : List Expr} {scope : Scope} (own : List (Str × Nat)) {dw : DI} {ws : List Nat} {dg : DG} {dt : DT} {de : DE} (hN : X.N.Nodup) (hi : DPI X E tg a dw) (ok : BlkOk X.N X.env.scope scope own)
    (hg : ∀ (s : Shared) (H : Hp) (C : Addr) (cl : List (Str × Addr)) (fp : List Addr), DPG (X.blk s H scope (compEnvC scope cl C X.env) fp) E ws tg dg)
    (ht : ∀ (s : Shared) (H : Hp) (C : Addr) (cl : List (Str × Addr)) (fp : List Addr), DPTs (X.blk s H scope (compEnvC scope cl C X.env) fp) E ifs dt)
    (he : ∀ (s : Shared) (H : Hp) (C : Addr) (cl : List (Str × Addr)) (fp : List Addr), DPE (X.blk s H scope (compEnvC scope cl C X.env) fp) E elt de)
    (hws : ∀ i ∈ ws, i ∈ own.map (·.2) := by decide) (hc : X.calm = true := by rfl) (hs : ∀ x, foldedSetIterable a X.env x = pure x := by intro _; rfl) :
    DPF X E (.ListComp elt [⟨tg, a, ifs, 0⟩] scope pos) (fLc dw dg dt de (own.map (·.2))) :=
  pe_imp (pe_lc hc hN hi ok hg ht he hs) fun _ _ _ h => lcF_up hws h
end
end DL
namespace DL
open PySem PySem.Spec PyProof.Rows L2
/-! ### small facts of the mathematics -/
theorem cut_take (ds : List PyData) (k : Nat) : cutD ds none (some (k : Int)) = ds.take k := by
  unfold cutD
  rw [HT.sIx_none, show HT.sIx ds.length ds.length (some (k : Int)) = min k ds.length from HT.sIx_nat _ _ k, List.drop_zero, Nat.sub_zero]
  by_cases h : k ≤ ds.length
  · rw [Nat.min_eq_left h]
  · rw [Nat.min_eq_right (by omega), List.take_of_length_le (Nat.le_refl _), List.take_of_length_le (by omega)]
theorem cut_drop (ds : List PyData) (k : Nat) : cutD ds (some (k : Int)) none = ds.drop k := by
  unfold cutD
  rw [show HT.sIx ds.length 0 (some (k : Int)) = min k ds.length from HT.sIx_nat _ _ k, HT.sIx_none]
  by_cases h : k ≤ ds.length
  · rw [Nat.min_eq_left h, List.take_of_length_le (by rw [List.length_drop]; exact Nat.le_refl _)]
  · rw [Nat.min_eq_right (by omega), List.drop_eq_nil_of_le (Nat.le_refl _), List.drop_eq_nil_of_le (by omega), List.take_nil]
theorem dInts_take (ns : List Int) (k : Nat) : (dInts ns).take k = dInts (ns.take k) := by simp [dInts, List.map_take]
theorem dInts_drop (ns : List Int) (k : Nat) : (dInts ns).drop k = dInts (ns.drop k) := by simp [dInts, List.map_drop]
theorem dInts_app (ns ms : List Int) : dInts ns ++ dInts ms = dInts (ns ++ ms) := by simp [dInts]
theorem dInts_rev (ns : List Int) : (dInts ns).reverse = dInts ns.reverse := by simp [dInts]
theorem ifT {b : Bool} {A B : Prop} (hb : b = true) (h : A) : if b = true then A else B := by rw [if_pos hb]; exact h
theorem ifF {b : Bool} {A B : Prop} (hb : b = false) (h : B) : if b = true then A else B := by rw [if_neg (by rw [hb]; decide)]; exact h
theorem dInts_inj : ∀ {a b : List Int}, dInts a = dInts b → a = b
  | [], [], _ => rfl
  | [], _ :: _, h => by simp [dInts] at h
  | _ :: _, [], h => by simp [dInts] at h
  | x :: a, y :: b, h => by
    simp only [dInts, List.map_cons, List.cons.injEq, PyData.int.injEq] at h
    rw [h.1, dInts_inj (a := a) (b := b) h.2]
theorem eqv_dInts : ∀ a b : List Int, PyData.eqvAll (dInts a) (dInts b) = decide (a = b)
  | [], [] => rfl
  | [], _ :: _ => rfl
  | _ :: _, [] => rfl
  | x :: a, y :: b => by
    have ih := eqv_dInts a b
    simp only [dInts, List.map_cons, PyData.eqvAll, PyData.eqv]
    rw [show PyData.eqvAll (List.map PyData.int a) (List.map PyData.int b) = decide (a = b) from ih]
    by_cases h1 : x = y
    · by_cases h2 : a = b
      · simp [h1, h2]
      · simp [h1, h2]
    · simp [h1]
theorem eqv_tup (a b : List Int) : PyData.eqv (.tuple (dInts a)) (.tuple (dInts b)) = decide (a = b) := by
  rw [PyData.eqv]
  exact eqv_dInts a b
theorem shaped_tup (ns : List Int) : SeqAt.shaped (.tuple (dInts ns)) = true := by
  unfold SeqAt.shaped
  simp [PyData.canLay0, dInts_lay, PyData.depth, dInts_depth]
theorem eq_tup {a b : List Int} {P : PyData → Prop} (h : P (.bool (decide (a = b)))) : rdEq (.tuple (dInts a)) (.tuple (dInts b)) P := by
  refine ⟨shaped_tup a, shaped_tup b, ?_⟩
  rw [eqv_tup]
  exact h
theorem ne_tup {a b : List Int} {P : PyData → Prop} (h : P (.bool (!decide (a = b)))) : rdNe (.tuple (dInts a)) (.tuple (dInts b)) P := by
  refine ⟨shaped_tup a, shaped_tup b, ?_⟩
  show (match PyData.bool (PyData.eqv (.tuple (dInts a)) (.tuple (dInts b))) with | .bool b => P (.bool (!b)) | _ => False)
  rw [eqv_tup]
  exact h
theorem eq_lst {a b : List Int} {P : PyData → Prop} (h : P (.bool (decide (a = b)))) : rdEq (.list (dInts a)) (.list (dInts b)) P := by
  refine ⟨shaped_lst a, shaped_lst b, ?_⟩
  rw [PyData.eqv, eqv_dInts]
  exact h
theorem ne_lst2 {a b : List Int} {P : PyData → Prop} (h : P (.bool (!decide (a = b)))) : rdNe (.list (dInts a)) (.list (dInts b)) P := by
  refine ⟨shaped_lst a, shaped_lst b, ?_⟩
  show (match PyData.bool (PyData.eqv (.list (dInts a)) (.list (dInts b))) with | .bool b => P (.bool (!b)) | _ => False)
  rw [PyData.eqv, eqv_dInts]
  exact h
theorem nq_bool {a b : Bool} {P : PyData → Prop} (h : P (.bool (a != b))) : rdNe (.bool a) (.bool b) P := by
  refine ⟨by unfold SeqAt.shaped; simp [PyData.canLay0, PyData.depth], by unfold SeqAt.shaped; simp [PyData.canLay0, PyData.depth], ?_⟩
  cases a <;> cases b <;> exact h
theorem eqq_bool {a b : Bool} {P : PyData → Prop} (h : P (.bool (a == b))) : rdEq (.bool a) (.bool b) P := by
  refine ⟨by unfold SeqAt.shaped; simp [PyData.canLay0, PyData.depth], by unfold SeqAt.shaped; simp [PyData.canLay0, PyData.depth], ?_⟩
  cases a <;> cases b <;> exact h
theorem eq_noneI {i : Int} {P : PyData → Prop} (h : P (.bool false)) : rdEq .none (.int i) P := ⟨rfl, rfl, h⟩
theorem dInts_at2 {ms : List Int} {k : Nat} (h : k < ms.length) : atI (dInts ms) (k : Int) = some (.int ms[k]) := by
  refine atI_nat ?_
  unfold dInts
  rw [List.getElem?_map, List.getElem?_eq_getElem h]
  rfl
/-! ### greatest and least of a list -/
def mxL : List Int → Int
  | [] => 0
  | [a] => a
  | a :: b :: l => max a (mxL (b :: l))
def mnL : List Int → Int
  | [] => 0
  | [a] => a
  | a :: b :: l => min a (mnL (b :: l))
theorem mxL_mem : ∀ {l : List Int}, 0 < l.length → mxL l ∈ l
  | [], h => absurd h (by decide)
  | [a], _ => by simp [mxL]
  | a :: b :: l, _ => by
    have ih := mxL_mem (l := b :: l) (by simp)
    show max a (mxL (b :: l)) ∈ a :: b :: l
    rcases Int.le_total a (mxL (b :: l)) with h | h
    · rw [Int.max_eq_right h]
      exact List.mem_cons_of_mem _ ih
    · rw [Int.max_eq_left h]
      exact List.mem_cons_self
theorem mnL_mem : ∀ {l : List Int}, 0 < l.length → mnL l ∈ l
  | [], h => absurd h (by decide)
  | [a], _ => by simp [mnL]
  | a :: b :: l, _ => by
    have ih := mnL_mem (l := b :: l) (by simp)
    show min a (mnL (b :: l)) ∈ a :: b :: l
    rcases Int.le_total a (mnL (b :: l)) with h | h
    · rw [Int.min_eq_left h]
      exact List.mem_cons_self
    · rw [Int.min_eq_right h]
      exact List.mem_cons_of_mem _ ih
theorem mxL_ge : ∀ {l : List Int} {y : Int}, y ∈ l → y ≤ mxL l
  | [a], y, h => by simp at h; simp [mxL, h]
  | a :: b :: l, y, h => by
    show y ≤ max a (mxL (b :: l))
    rcases List.mem_cons.mp h with rfl | h
    · exact Int.le_max_left _ _
    · exact Int.le_trans (mxL_ge h) (Int.le_max_right _ _)
theorem mnL_le : ∀ {l : List Int} {y : Int}, y ∈ l → mnL l ≤ y
  | [a], y, h => by simp at h; simp [mnL, h]
  | a :: b :: l, y, h => by
    show min a (mnL (b :: l)) ≤ y
    rcases List.mem_cons.mp h with rfl | h
    · exact Int.min_le_left _ _
    · exact Int.le_trans (Int.min_le_right _ _) (mnL_le h)
theorem mxL_eq {l : List Int} {m : Int} (h1 : m ∈ l) (h2 : ∀ y ∈ l, y ≤ m) : mxL l = m := by
  have := mxL_ge h1
  have := h2 _ (mxL_mem (List.length_pos_of_mem h1))
  omega
theorem mnL_eq {l : List Int} {m : Int} (h1 : m ∈ l) (h2 : ∀ y ∈ l, m ≤ y) : mnL l = m := by
  have := mnL_le h1
  have := h2 _ (mnL_mem (List.length_pos_of_mem h1))
  omega
theorem max_ok {l : List Int} {P : PyData → Prop} (hl : 0 < l.length) (h : P (.int (mxL l))) : rdMaxA [.list (dInts l)] P :=
  ⟨l, intsOf_map l, hl, fun m h1 h2 => by rw [← mxL_eq h1 h2]; exact h⟩
theorem min_ok {l : List Int} {P : PyData → Prop} (hl : 0 < l.length) (h : P (.int (mnL l))) : rdMinA [.list (dInts l)] P :=
  ⟨l, intsOf_map l, hl, fun m h1 h2 => by rw [← mnL_eq h1 h2]; exact h⟩
theorem sum_okT {l : List Int} {P : PyData → Prop} (h : P (.int l.sum)) : rdSumA [.tuple (dInts l)] P := ⟨l, intsOf_map l, h⟩
theorem sum_okL {l : List Int} {P : PyData → Prop} (h : P (.int l.sum)) : rdSumA [.list (dInts l)] P := ⟨l, intsOf_map l, h⟩
end DL
namespace DL
open PySem PySem.Spec PyProof.Rows L2
/-! ### what can be shown, dicts among it -/
structure Sd (k N : Nat) (d : PyData) : Prop where
  s : d.showable = true
  k : d.depth ≤ k
  c : d.shown.length ≤ N
theorem Sm.sd {k N : Nat} {d : PyData} (h : Sm k N d) : Sd k N d := ⟨h.s, h.k, Nat.le_trans (shown_le d h.s h.h) h.c⟩
theorem sds_of {k N : Nat} : ∀ {ds : List PyData}, (∀ d ∈ ds, Sd k N d) → PyData.showableAll ds = true ∧ PyData.depthAll ds ≤ k ∧ piled (PyData.shownAll ds) ≤ (N + 2) * ds.length
  | [], _ => ⟨rfl, Nat.zero_le _, by simp [PyData.shownAll, piled]⟩
  | d :: ds, h => by
    obtain ⟨h1, h2, h3⟩ := sds_of fun e he => h e (List.mem_cons_of_mem _ he)
    have hd := h d List.mem_cons_self
    refine ⟨by simp only [PyData.showableAll, hd.s, h1, Bool.and_self], ?_, ?_⟩
    · simp only [PyData.depthAll]
      have := hd.k
      omega
    · simp only [PyData.shownAll]
      rw [piled_cons, List.length_cons, Nat.mul_succ]
      have := hd.c
      omega
theorem sd_tup {k N : Nat} {ds : List PyData} (L : Nat) (h : ∀ d ∈ ds, Sd k N d) (hl : ds.length ≤ L) : Sd (k + 1) ((N + 2) * L + 2) (.tuple ds) := by
  obtain ⟨h1, h2, h3⟩ := sds_of h
  refine ⟨by simpa [PyData.showable] using h1, by simpa [PyData.depth] using h2, ?_⟩
  simp only [PyData.shown]
  have := fmt_text (PyData.shownAll ds)
  have := Nat.mul_le_mul_left (N + 2) hl
  omega
theorem sd_lst {k N : Nat} {ds : List PyData} (L : Nat) (h : ∀ d ∈ ds, Sd k N d) (hl : ds.length ≤ L) : Sd (k + 1) ((N + 2) * L + 2) (.list ds) := by
  obtain ⟨h1, h2, h3⟩ := sds_of h
  refine ⟨by simpa [PyData.showable] using h1, by simpa [PyData.depth] using h2, ?_⟩
  simp only [PyData.shown]
  have := listText_le (PyData.shownAll ds)
  have := Nat.mul_le_mul_left (N + 2) hl
  omega
theorem Sd.mono {k k' N N' : Nat} {d : PyData} (h : Sd k N d) (h1 : k ≤ k') (h2 : N ≤ N') : Sd k' N' d := ⟨h.s, Nat.le_trans h.k h1, Nat.le_trans h.c h2⟩
theorem Sd.shows {k N : Nat} {d : PyData} (h : Sd k N d) (h1 : k ≤ 60) (h2 : N ≤ 16000000) : DL.shows d := ⟨h.s, Nat.le_trans h.k h1, Nat.le_trans h.c (by rw [sizeLine_eq]; omega)⟩
theorem sd_int {i : Int} (h : i.natAbs < 2 ^ 200) : Sd 0 1921 (.int i) := (sm_int h).sd
theorem sd_none : Sd 0 1921 .none := sm_none.sd
theorem sd_bool (b : Bool) : Sd 0 1921 (.bool b) := (sm_bool b).sd
theorem sd_dict0 : Sd 1 1921 (.dict []) := ⟨rfl, by decide, by simp only [PyData.shown]; decide +kernel⟩
theorem sd_dict1 : Sd 1 1921 (.dict [(.str "a", .int 1)]) := ⟨by decide +kernel, by decide +kernel, by decide +kernel⟩
theorem sd_str {x : Str} (h : (reprText x).length ≤ 1921) : Sd 0 1921 (.str x) := ⟨rfl, Nat.le_refl _, h⟩
end DL
namespace DL
open PySem PySem.Spec PyProof.Rows L2 HT
/-! ### t[::-1] of a tuple -/
section
variable {prog : Program} {w : World} {A : Around} {E : Value → Shared → Prop} {s : Shared}
theorem adjust_rev (n : Nat) : Builtin.Slice.sliceAdjust none none (-1) (n : Int) = ((n : Int) - 1, -1) := rfl
theorem places_rev (n : Nat) : Builtin.Slice.slicePlaces ((n : Int) - 1) (-1) (-1) = n := by
  unfold Builtin.Slice.slicePlaces
  have h1 : ¬ ((-1 : Int) > 0) := by omega
  simp only [h1, if_false]
  by_cases h : n = 0
  · subst h
    rfl
  · have h2 : (n : Int) - 1 > -1 := by omega
    simp only [h2, if_true]
    rw [show -(-1 : Int) = 1 by decide, Int.ediv_one]
    omega
theorem sliceApplied_rev {sl : Addr} {vs : Value} {n : Nat} {Q : Int × Int × Nat → Shared → Prop} (hs : s.heap.IsSliceOf sl .none .none vs) (ps : IsPart vs (some (-1))) (h : Q ((n : Int) - 1, -1, n) s) :
    wpAny (model prog w) A (Builtin.Slice.sliceApplied (.ref sl) (pure (n : Int))) Q E s := by
  obtain ⟨os, hos, hcs, hds⟩ := id hs
  unfold Builtin.Slice.sliceApplied Builtin.Slice.sliceFields
  refine wpAny_bind (wpAny_bind (wpAny_field hos hds (x := .none) rfl (wpAny_bind (wpAny_field hos hds (x := .none) rfl (wpAny_bind (wpAny_field hos hds (x := vs) rfl (wpAny_pure ?_)))))))
  refine wpAny_bind (slicePart_ ps ?_)
  show wpAny _ _ (if ((-1 : Int) == 0) = true then _ else _) _ _ s
  rw [if_neg (by decide)]
  refine wpAny_bind (slicePart_ .none (wpAny_bind (slicePart_ .none (wpAny_bind (wpAny_pure ?_)))))
  show wpAny _ _ (match Builtin.Slice.sliceAdjust none none (-1) (n : Int) with | (lo, hi) => pure (lo, (-1 : Int), Builtin.Slice.slicePlaces lo hi (-1))) _ _ s
  rw [adjust_rev]
  show wpAny _ _ (pure ((n : Int) - 1, (-1 : Int), Builtin.Slice.slicePlaces ((n : Int) - 1) (-1) (-1))) _ _ s
  rw [places_rev]
  exact wpAny_pure h
theorem pick_rev (xs : Array Value) : ((List.range xs.size).filterMap fun (m : Nat) => xs[(((xs.size : Int) - 1) + (m : Int) * (-1)).toNat]?).toArray = xs.toList.reverse.toArray := by
  congr 1
  have one : ∀ m, m < xs.size → xs[(((xs.size : Int) - 1) + (m : Int) * (-1)).toNat]? = xs.toList.reverse[m]? := fun m hm => by
    rw [List.getElem?_reverse (by rw [Array.length_toList]; exact hm), Array.length_toList, Array.getElem?_toList]
    congr 1
    omega
  have e : ((List.range xs.size).filterMap fun (m : Nat) => xs[(((xs.size : Int) - 1) + (m : Int) * (-1)).toNat]?) = (List.range xs.size).filterMap fun m => xs.toList.reverse[m]? := by
    have gen : ∀ (l : List Nat), (∀ m ∈ l, m < xs.size) → l.filterMap (fun (m : Nat) => xs[(((xs.size : Int) - 1) + (m : Int) * (-1)).toNat]?) = l.filterMap fun m => xs.toList.reverse[m]? := fun l => by
      induction l with
      | nil => intro _; rfl
      | cons m l ih =>
        intro hl
        rw [List.filterMap_cons, List.filterMap_cons, ih fun k hk => hl k (List.mem_cons_of_mem _ hk), one m (hl m List.mem_cons_self)]
    exact gen _ fun m hm => List.mem_range.mp hm
  rw [e]
  have : ∀ (l : List Value), (List.range l.length).filterMap (fun m => l[m]?) = l := fun l => by
    induction l with
    | nil => rfl
    | cons x l ih =>
      rw [List.length_cons, List.range_succ_eq_map, List.filterMap_cons]
      simp only [List.getElem?_cons_zero, List.filterMap_map]
      congr 1
  have h2 := this xs.toList.reverse
  rw [List.length_reverse, Array.length_toList] at h2
  exact h2
theorem getItem_tuple_rev {t sl : Addr} {items : Array Value} {vs : Value} {Q : Value → Shared → Prop} (ht : IsTup s.heap t items) (hs : s.heap.IsSliceOf sl .none .none vs) (ps : IsPart vs (some (-1)))
    (h : Q (.ref s.heap.objs.size) { s with heap := s.heap.push { cls := .type "tuple", data := .seq items.toList.reverse.toArray } }) (hsz : items.size ≤ sizeLine) : wpAny (model prog w) A (getItem (.ref t) (.ref sl)) Q E s := by
  have htake : sizeOk (.seq items.toList.reverse.toArray) := by
    show items.toList.reverse.toArray.size ≤ sizeLine
    rw [List.size_toArray, List.length_reverse, Array.length_toList]
    exact hsz
  obtain ⟨os, hos, hcs, hds⟩ := id hs
  have hTs : s.TypeIs (.ref sl) "slice" := ⟨os, hos, hcs⟩
  unfold getItem
  try with_reducible refine wpAny_holding ?_
  first | refine wpAny_bind (wpAny_pure ?_) | skip
  refine wpAny_bind (wpAny_sequenceKey ht.typeIs (by decide) ?_)
  refine wpAny_bind (wpAny_callSpecial?_slot (name := Str.ofString "__getitem__") ht.typeIs PyProof.Rows.slot_tuple_getitem
    (wpAny_call_entry PyProof.Rows.slot_tuple_getitem ht.typeIs entry_tuple_getitem ?_ (args_tuple_getitem _ _)))
  show wpAny _ _ (Builtin.Tuple.tupleItemsOf (.ref t) >>= _) _ _ s
  refine wpAny_bind (tupleItemsOf_ ht ?_)
  refine wpAny_bind (wpAny_typeOf hTs ?_)
  rw [if_pos (by decide)]
  refine wpAny_bind (sliceApplied_rev hs ps ?_)
  have hno : ¬ ((((items.size : Int) - 1) == 0 && (-1 : Int) == 1 && items.size == items.size) = true) := by simp
  show wpAny _ _ (if (((items.size : Int) - 1) == 0 && (-1 : Int) == 1 && items.size == items.size) = true then _ else _) _ _ s
  rw [if_neg hno, pick_rev]
  first
    | exact wpAny_bind (m := Builtin.Tuple.tupleExact _) (wpAny_newObj_type (wpAny_pure ⟨_, rfl, wpAny_pure h⟩) htake)
    | exact wpAny_bind (m := Builtin.Tuple.tupleExact _) (wpAny_newObj_type (wpAny_bind (wpAny_pure (wpAny_pure ⟨_, rfl, wpAny_pure h⟩))) htake)
    | exact wpAny_bind (wpAny_bind (m := Builtin.Tuple.tupleExact _) (wpAny_newObj_type (wpAny_pure (wpAny_pure ⟨_, rfl, wpAny_pure h⟩)) htake))
    | exact wpAny_bind (wpAny_bind (m := Builtin.Tuple.tupleExact _) (wpAny_newObj_type (wpAny_pure ⟨_, rfl, wpAny_pure h⟩) htake))
end
def tRevT (K : PySem.W.Frag) (te : TE) : TE := fun σ H Q => te σ H fun x H1 => ∃ a xs, x = .ref a ∧ SqT K H1 a xs ∧ ∀ p, H1 p = none → Q (.ref p) (upd H1 p (.tup xs.reverse))
section
variable {X : Cx}
theorem pe_revT {e : Expr} {te : TE} {k : Nat} {p1 p2 p3 pos : Pos} (he : PE X e te) : PE X (.Subscript e (.Slice none none (some (.UnaryOp .USub (.Constant (.int 1) k p1) p2)) p3) pos) (tRevT X.K te) := by
  refine ⟨fun pins s σ H Q I h => ?_⟩
  refine Subscript_ (thn (he.run pins s σ H _ I h) fun v s1 ⟨x, H1, I1, r1, q1⟩ => ?_)
  obtain ⟨a, xs, ex, hx, q⟩ := q1
  subst ex
  cases r1
  have hst : PO X (some (.UnaryOp .USub (.Constant (.int 1) k p1) p2)) (tPart (tUn (rU fun i => .int (-i)) (tC (.int 1)))) := po_some (pe_un un_neg pe_int)
  refine wpAny_Slice (thn (po_none.run pins s1 σ H1 (fun o H2 => o = none ∧ H2 = H1) I1 ⟨rfl, rfl⟩) fun vl s2 ⟨l, H2, I2, pl, el, e2⟩ => ?_)
  subst el e2
  refine thn (po_none.run pins s2 σ H2 (fun o H3 => o = none ∧ H3 = H2) I2 ⟨rfl, rfl⟩) fun vu s3 ⟨u, H3, I3, pu, eu, e3⟩ => ?_
  subst eu e3
  refine thn (hst.run pins s3 σ H3 (fun o H4 => o = some (-1) ∧ H4 = H3) I3 ⟨1, rfl, -1, rfl, rfl, rfl⟩) fun vs s4 ⟨o, H4, I4, ps, eo, e4⟩ => ?_
  subst eo e4
  cases pl
  cases pu
  have I5 : Inv X pins σ H4 { s4 with heap := s4.heap.push { cls := .type "slice", data := .fields #[.none, .none, vs] } } := I4.kept (t' := s4.toks) fun b ob q => Heap.get?_push_of_some _ q
  obtain ⟨its, r, ht, hz⟩ := I5.tuple hx
  have hlen := r.length
  show wpAny (model X.prog X.w) X.A (subscriptTail e (.Slice none none (some (.UnaryOp .USub (.Constant (.int 1) k p1) p2)) p3) (.ref a) (.ref s4.heap.objs.size)) (EP X pins σ Q) X.xe { s4 with heap := s4.heap.push { cls := .type "slice", data := .fields #[.none, .none, vs] } }
  refine tail_any (ops := [.ref a, .ref s4.heap.objs.size]) ht.typeIs (PyProof.Rows.slot_tuple_getitem.lookup) ?_ (by with_unfolding_all rfl)
  refine getItem_tuple_rev ht (Heap.IsSliceOf.new _ .none .none vs) ps ?_ (by rw [List.size_toArray]; omega)
  refine ⟨.ref _, _, I5.laid (t' := s4.toks) (o := .tup xs.reverse) (fun b ob q => Heap.get?_push_of_some _ q) (Nat.le_refl _) ?_, rfl, q _ (I5.hok.fresh (Nat.le_refl _))⟩
  exact ⟨by rw [List.length_reverse]; exact hz, _, r.reverse, IsTup.new _ _⟩
end
def rdRevT : PyData → (PyData → Prop) → Prop := fun d P => match d with
  | .tuple ds => P (.tuple ds.reverse)
  | _ => False
section
variable {X : Cx} {E : En} {a b : Expr} {da db : DE} {pos : Pos}
theorem de_revT {kk : Nat} {p1 p2 p3 : Pos} (h : DPE X E a da) : DPE X E (.Subscript a (.Slice none none (some (.UnaryOp .USub (.Constant (.int 1) kk p1) p2)) p3) pos) (dUn rdRevT da) := by
  refine pe_imp (pe_revT h) fun σ H Q h => ?_
  obtain ⟨g, env, c, P, rel, q, k⟩ := h
  refine ⟨g, env, c, _, rel, q, fun x c1 g1 H1 v p1 m1 r1 o1 f1 => ?_⟩
  cases x with
  | deck => exact p1.elim
  | exc _ => exact p1.elim
  | own l => exact p1.elim
  | dat d =>
    cases d <;> try exact p1.elim
    rename_i ds
    have o1 : Dp X.K g1.F v (.tuple ds) := o1
    cases o1 with
    | tup hs ha =>
      refine ⟨_, _, rfl, seqT r1.ex hs, fun p hp => ?_⟩
      obtain ⟨r2, m2⟩ := r1.new (.tup _) hp
      exact k _ _ _ _ _ p1 (m1.trans m2) r2 (.tup (.of upd_same) (dpAll_mono m2.f (DpAll.rev ha))) trivial
end
/-! ### all, any -/
def boolsOf : List PyData → Option (List Bool)
  | [] => some []
  | .bool b :: r => (boolsOf r).map (b :: ·)
  | _ :: _ => none
theorem boolsOf_dp {K : PySem.W.Frag} {F : Hp} : ∀ {ds : List PyData} {xs : List V} {bs : List Bool}, boolsOf ds = some bs → DpAll K F xs ds → xs = bs.map V.bl
  | [], _, bs, e, h => by
    cases h
    cases e
    rfl
  | d :: ds, _, bs, e, h => by
    cases h with
    | cons h1 h2 =>
      cases d <;> try (simp [boolsOf] at e; done)
      rename_i b
      simp only [boolsOf, Option.map_eq_some_iff] at e
      obtain ⟨l, e1, rfl⟩ := e
      rw [dp_bl h1, boolsOf_dp e1 h2]
      rfl
theorem boolsOf_map (bs : List Bool) : boolsOf (bs.map PyData.bool) = some bs := by
  induction bs with
  | nil => rfl
  | cons b bs ih => simp [boolsOf, ih]
def rdAll : List PyData → (PyData → Prop) → Prop := fun ds P => match ds with
  | [.list xs] => ∃ bs, boolsOf xs = some bs ∧ P (.bool (bs.all id))
  | _ => False
def rdAny : List PyData → (PyData → Prop) → Prop := fun ds P => match ds with
  | [.list xs] => ∃ bs, boolsOf xs = some bs ∧ P (.bool (bs.any id))
  | _ => False
theorem cd_all {K : PySem.W.Frag} : CallD K (rAll K) rdAll := by
  intro E g env c σ H xs ds P Q r h q k
  unfold rdAll at q
  split at q
  · cases h with
    | cons h1 t =>
      cases t
      cases h1 with
      | lst hs ha =>
        obtain ⟨bs, e, q⟩ := q
        have ex := boolsOf_dp e ha
        subst ex
        exact ⟨_, bs, rfl, r.ex.seq hs, k _ g H _ q (Mv.refl g H) r (.bl _)⟩
  · exact q.elim
theorem cd_any {K : PySem.W.Frag} : CallD K (rAny K) rdAny := by
  intro E g env c σ H xs ds P Q r h q k
  unfold rdAny at q
  split at q
  · cases h with
    | cons h1 t =>
      cases t
      cases h1 with
      | lst hs ha =>
        obtain ⟨bs, e, q⟩ := q
        have ex := boolsOf_dp e ha
        subst ex
        exact ⟨_, bs, rfl, r.ex.seq hs, k _ g H _ q (Mv.refl g H) r (.bl _)⟩
  · exact q.elim
/-! ### is True, is not True, of bools -/
def rdIsB : PyData → PyData → (PyData → Prop) → Prop := fun d e P => match d, e with
  | .bool a, .bool b => P (.bool (decide (a = b)))
  | _, _ => False
def rdNotB : PyData → PyData → (PyData → Prop) → Prop := fun d e P => match d, e with
  | .bool a, .bool b => P (.bool (!decide (a = b)))
  | _, _ => False
theorem opd_isB {K : PySem.W.Frag} : OpD K rIsB rdIsB := by
  intro E g env c σ H x y d e P Q r hx hy q k
  unfold rdIsB at q
  split at q
  · exact ⟨_, _, dp_bl hx, dp_bl hy, k _ g H _ q (Mv.refl g H) r (.bl _)⟩
  · exact q.elim
theorem opd_notB {K : PySem.W.Frag} : OpD K rNotB rdNotB := by
  intro E g env c σ H x y d e P Q r hx hy q k
  unfold rdNotB at q
  split at q
  · exact ⟨_, _, dp_bl hx, dp_bl hy, k _ g H _ q (Mv.refl g H) r (.bl _)⟩
  · exact q.elim
section
variable {X : Cx} {E : En} {a b : Expr} {da db : DE} {pos : Pos}
theorem de_isB (ha : DPE X E a da) (hb : DPE X E b db) (hm : behindInMarks .Is b = false := by first | exact nobehind _ (by decide) (by decide) | rfl) : DPE X E (.Compare a [.Is] [b] pos) (dOp rdIsB da db) := de_cmp op_isBl opd_isB ha hb hm
theorem de_notB (ha : DPE X E a da) (hb : DPE X E b db) (hm : behindInMarks .IsNot b = false := by first | exact nobehind _ (by decide) (by decide) | rfl) : DPE X E (.Compare a [.IsNot] [b] pos) (dOp rdNotB da db) := de_cmp op_notBl opd_notB ha hb hm
theorem dt_isB (ha : DPE X E a da) (hb : DPE X E b db) (hm : behindInMarks .Is b = false := by first | exact nobehind _ (by decide) (by decide) | rfl) : DPT X E (.Compare a [.Is] [b] pos) (tVal (dOp rdIsB da db)) := dt_cmp op_isBl opd_isB ha hb hm
theorem dt_notB (ha : DPE X E a da) (hb : DPE X E b db) (hm : behindInMarks .IsNot b = false := by first | exact nobehind _ (by decide) (by decide) | rfl) : DPT X E (.Compare a [.IsNot] [b] pos) (tVal (dOp rdNotB da db)) := dt_cmp op_notBl opd_notB ha hb hm
end
end DL
namespace DL
open PySem PySem.Spec PyProof.Rows L2
/-! ### x == [], x != [], whatever x holds -/
def rNeLen (K : PySem.W.Frag) : R2 := fun x y H Q => ∃ a b xs ys, x = .ref a ∧ y = .ref b ∧ SqL K H a xs ∧ SqL K H b ys ∧ xs.length ≠ ys.length ∧ Q (.bl true) H
def rEqLen (K : PySem.W.Frag) : R2 := fun x y H Q => ∃ a b xs ys, x = .ref a ∧ y = .ref b ∧ SqL K H a xs ∧ SqL K H b ys ∧ xs.length ≠ ys.length ∧ Q (.bl false) H
section
variable {X : Cx}
theorem op_neLen (hu : X.A.units < cLine) : OpR X (compareOp .NotEq) (rNeLen X.K) := by
  intro pins s σ H x y v u Q I rx ry h
  obtain ⟨a, b, xs, ys, rfl, rfl, h1, h2, hne, q⟩ := h
  cases rx
  cases ry
  obtain ⟨its, r, hl, _⟩ := I.list h1
  obtain ⟨its2, r2, hl2, _⟩ := I.list h2
  have l1 := r.length
  have l2 := r2.length
  exact SeqAt.RcNeAt.lists_lengths hl.isList hl2.isList (by simp; omega) hu X.prog X.w X.xe _ ⟨.bl true, H, I, rfl, q⟩
theorem op_eqLen (hu : X.A.units < cLine) : OpR X (compareOp .Eq) (rEqLen X.K) := by
  intro pins s σ H x y v u Q I rx ry h
  obtain ⟨a, b, xs, ys, rfl, rfl, h1, h2, hne, q⟩ := h
  cases rx
  cases ry
  obtain ⟨its, r, hl, _⟩ := I.list h1
  obtain ⟨its2, r2, hl2, _⟩ := I.list h2
  have l1 := r.length
  have l2 := r2.length
  exact SeqAt.RcAt.lists_lengths hl.isList hl2.isList (by simp; omega) hu X.prog X.w X.xe _ ⟨.bl false, H, I, rfl, q⟩
end
def rdNeNil : PyData → PyData → (PyData → Prop) → Prop := fun d e P => match d, e with
  | .list xs, .list [] => P (.bool (!xs.isEmpty))
  | _, _ => False
def rdEqNil : PyData → PyData → (PyData → Prop) → Prop := fun d e P => match d, e with
  | .list xs, .list [] => P (.bool xs.isEmpty)
  | _, _ => False
theorem opd_neNil {K : PySem.W.Frag} : OpD K (fun x y H Q => rNeLen K x y H Q ∨ rNeD K x y H Q) rdNeNil := by
  intro E g env c σ H x y d e P Q r hx hy q k
  unfold rdNeNil at q
  split at q
  · rename_i xs
    cases xs with
    | nil => exact .inr ⟨_, _, dp_l2 (dpF r hx) rfl, dp_l2 (dpF r hy) rfl, rfl, rfl, k _ g H _ q (Mv.refl g H) r (.bl _)⟩
    | cons z xs =>
      cases hx with
      | lst s1 a1 =>
        cases hy with
        | lst s2 a2 =>
          cases a2
          refine .inl ⟨_, _, _, _, rfl, rfl, r.ex.seq s1, r.ex.seq s2, ?_, k _ g H _ q (Mv.refl g H) r (.bl _)⟩
          rw [DpAll.len a1]
          simp
  · exact q.elim
theorem opd_eqNil {K : PySem.W.Frag} : OpD K (fun x y H Q => rEqLen K x y H Q ∨ rEqD K x y H Q) rdEqNil := by
  intro E g env c σ H x y d e P Q r hx hy q k
  unfold rdEqNil at q
  split at q
  · rename_i xs
    cases xs with
    | nil => exact .inr ⟨_, _, dp_l2 (dpF r hx) rfl, dp_l2 (dpF r hy) rfl, rfl, rfl, k _ g H _ q (Mv.refl g H) r (.bl _)⟩
    | cons z xs =>
      cases hx with
      | lst s1 a1 =>
        cases hy with
        | lst s2 a2 =>
          cases a2
          refine .inl ⟨_, _, _, _, rfl, rfl, r.ex.seq s1, r.ex.seq s2, ?_, k _ g H _ q (Mv.refl g H) r (.bl _)⟩
          rw [DpAll.len a1]
          simp
  · exact q.elim
section
variable {X : Cx} {E : En} {a b : Expr} {da db : DE} {pos : Pos}
theorem room_line {k : Nat} {A : Around} (hr : Room k A) : A.units < cLine := Nat.lt_of_le_of_lt (Nat.le_add_right _ _) hr.units
theorem de_neNil {k : Nat} (hr : Room k X.A) (ha : DPE X E a da) (hb : DPE X E b db) : DPE X E (.Compare a [.NotEq] [b] pos) (dOp rdNeNil da db) := de_cmp (op_or (op_neLen (room_line hr)) (op_neD hr.units)) opd_neNil ha hb
theorem de_eqNil {k : Nat} (hr : Room k X.A) (ha : DPE X E a da) (hb : DPE X E b db) : DPE X E (.Compare a [.Eq] [b] pos) (dOp rdEqNil da db) := de_cmp (op_or (op_eqLen (room_line hr)) (op_eqD hr.units)) opd_eqNil ha hb
theorem dt_neNil {k : Nat} (hr : Room k X.A) (ha : DPE X E a da) (hb : DPE X E b db) : DPT X E (.Compare a [.NotEq] [b] pos) (tVal (dOp rdNeNil da db)) := dt_cmp (op_or (op_neLen (room_line hr)) (op_neD hr.units)) opd_neNil ha hb
theorem dt_eqNil {k : Nat} (hr : Room k X.A) (ha : DPE X E a da) (hb : DPE X E b db) : DPT X E (.Compare a [.Eq] [b] pos) (tVal (dOp rdEqNil da db)) := dt_cmp (op_or (op_eqLen (room_line hr)) (op_eqD hr.units)) opd_eqNil ha hb
end
/-- a boolean comprehension over a tuple -/
theorem bools_map (f : PyData → Bool) (ds : List PyData) : boolsOf (ds.map fun d => .bool (f d)) = some (ds.map f) := by
  rw [show (ds.map fun d => PyData.bool (f d)) = (ds.map f).map PyData.bool by rw [List.map_map]; rfl]
  exact boolsOf_map _
end DL
namespace DL
open PySem PySem.Spec PyProof.Rows L2
/-! ### what is never reached -/
def sNo : DS := fun _ _ _ => False
theorem ds_no {X : Cx} {E : En} {st : Stmt} : DPS X E st sNo := ⟨fun pins s σ H D I h => by
  obtain ⟨_, _, _, _, _, q, _⟩ := h
  exact q.elim⟩
end DL
set_option maxHeartbeats 2000000
/-! defs with one star parameter -/
namespace DL
open PySem PySem.Spec PyProof.Rows L2
structure FnV (P : Program) (w : World) (K : PySem.W.Frag) (mg : Str → Option Value) (base : Heap) (k : Nat) (f : Addr) (sp : Sp) : Prop where
  run : ∀ (A : Around) (outer : List Env) (s : Shared) (H : Hp) (us : List Value) (vs : List V) (Q : VK), Room k A → A.guards = some [] → Env0 P w K mg base A outer s H → Vals vs us → sp vs H Q E0 →
    codeAny (model P w) A (.call (.ref f) ⟨us, []⟩) (CR CX0 outer P w H s Q E0) s
section
variable {P : Program} {w : World} {K : PySem.W.Frag} {mg : Str → Option Value} {base : Heap}
theorem fnV_star {x qual : Str} {st : Stmt} {f : Addr} {fd : FuncData} {N : List Str} {pv : Str} {k : Nat} {sp : Sp} (F : Fun K x qual st f fd) (S : FnScope N [pv] (defScope st))
    (hbd : ∀ rest : List Value, bindArgs fd ⟨rest, []⟩ = (newTuple rest >>= fun t => pure [(pv, t)]))
    (hb : ∀ (cdv : Value) (A : Around) (outer : List Env) (s : Shared) (H : Hp) (vs : List V) (Q : VK), Room k (A.deeper (envOfC qual (defScope st) s.heap.objs.size f cdv)) → A.guards = some [] → sp vs H Q E0 →
      ∃ t, PSs (cxOf CX0 P w K mg base N qual (defScope st) f cdv A outer s H E0).nox (defBody st) t ∧ t { nx := fun _ H' => Q .non H', rt := Q } (start N vs) H) :
    FnV P w K mg base (k + 1) f (fun vs H Q E => vs.length ≤ sizeLine ∧ ∀ p, H p = Option.none → sp [V.ref p] (upd H p (.tup vs)) Q E) := by
  obtain ⟨oc, od, kV, doc, pm, an, cdv, ct, osl, rfl, lk, hcd⟩ := F.ex
  refine ⟨fun A outer s H us vs Q room quiet e0 r want => ?_⟩
  obtain ⟨hz, hq⟩ := want
  have hn : H s.heap.objs.size = Option.none := e0.hok.fresh (Nat.le_refl _)
  have hl2 : us.length ≤ sizeLine := by rw [← r.length]; exact hz
  refine StX.run_bnd lk hcd S room e0 (G := fun xs H2 => ∃ p, H p = Option.none ∧ xs = [V.ref p] ∧ H2 = upd H p (.tup vs)) (fun A' Ex Q' h => ?_) fun s2 H2 xs ⟨p, hp, ex, eH⟩ hr' => ?_
  · rw [hbd us]
    refine wpAny_bind (wpAny_newTuple (wpAny_pure ?_) hl2)
    have new : ObjOk P w (upd H s.heap.objs.size (.tup vs)) (s.heap.push ({ cls := .type "tuple", data := .seq us.toArray } : Obj)) s.heap.objs.size (.tup vs) := ⟨hz, us, r, ⟨_, Heap.get?_push_size _ rfl, rfl, _, rfl⟩⟩
    have un := StX.un_laid (fs := frs outer) (s := s) (o := ({ cls := .type "tuple", data := .seq us.toArray } : Obj)) (u := .tup vs) hn
    exact h _ _ [V.ref s.heap.objs.size] [Value.ref s.heap.objs.size] (StX.env0_laid e0 new) un rfl (fun e s' z => z.elim) (.cons rfl .nil) rfl ⟨_, hn, rfl, rfl⟩
  · subst ex eH
    obtain ⟨t, d, q⟩ := hb cdv A outer s2 _ _ Q hr' quiet (hq p hp)
    exact ⟨t, d.nox, q⟩
end
section
variable {X : Cx} {k : Nat} {f : Addr} {sp : Sp} {x : Str} {p pos : Pos} {e : Expr} {es : List Expr} {t : TA}
theorem pe_callV (F : FnV X.prog X.w X.K X.mg X.base k f sp) (hr : Room k X.A) (hgd : X.A.guards = some []) (hg : Gl X x) (hm : X.mg x = some (.ref f)) (hk : PySem.W.keepIn X.K (.ref f) = true) (ha : PA X (e :: es) t)
    (hdb : (x == ("__debug__" : Str)) = false := by decide) (he : starEach (e :: es) X.env = (false, eval e X.env) :: starEach es X.env := by rfl) (hpl : (backTo pos (starEach es X.env)).any (·.1) = false := by rfl) :
    PE X (.Call (.Name x p) (e :: es) [] pos) (tCall sp [] E0 t) := by
  constructor
  intro pins s σ H Q I h
  refine wpAny_Call_Name_kw (ld_glob I hg hm (PySem.W.callWith_K (h₀ := X.base) I.ok.mod.kin hk ?_ he hpl) hdb)
  refine thn (ha.run pos pins s σ H _ I h) fun us s1 hq => ?_
  obtain ⟨vs, H1, I1, r, q⟩ := hq
  have q2 : sp vs H1 Q E0 := by
    have q3 : sp (vs ++ []) H1 Q E0 := q
    rwa [List.append_nil] at q3
  refine ⟨I1.kIn, wpAny_call (codeAny_mono (F.run X.A X.stack s1 H1 us vs Q hr hgd I1.env0 r q2) fun rr s' hrr => ?_)⟩
  match rr, hrr with
  | .error _, z => exact z.elim
  | .ok .next, z => exact z.elim
  | .ok .brk, z => exact z.elim
  | .ok .cont, z => exact z.elim
  | .ok (.ret u), z => exact I1.after z
end
def spV (K : PySem.W.Frag) (spec : Spec) : Sp := fun vs H Q _ => ∃ g c ds P, Same g.F H ∧ DeckOk g H c ∧ DpAll K g.F vs ds ∧ ds.length ≤ sizeLine ∧ spec [.dat (.tuple ds)] c P ∧
  ∀ x c' g' H' v, P x c' → Mv g H g' H' → Same g'.F H' → DeckOk g' H' c' → VOk K g' H' v x → free x → Q v H'
structure DefV (P : Program) (w : World) (K : PySem.W.Frag) (mg : Str → Option Value) (base : Heap) (k : Nat) (x : Str) (spec : Spec) : Prop where
  ex : ∃ f, FnV P w K mg base k f (spV K spec) ∧ mg x = some (.ref f) ∧ PySem.W.keepIn K (.ref f) = true
section
variable {X : Cx} {E : En} {k : Nat} {spec : Spec} {x : Str} {p pos : Pos} {e : Expr} {es : List Expr} {dr : DA}
def dCallV (spec : Spec) (dr : DA) : DE := dCall (fun xs c P => datsK xs fun ds => ds.length ≤ sizeLine ∧ spec [.dat (.tuple ds)] c P) dr
theorem de_callV (F : DefV X.prog X.w X.K X.mg X.base k x spec) (hr : Room k X.A) (hgd : X.A.guards = some []) (ha : DPA X E (e :: es) dr) (hg : Gl X x := by rfl)
    (hdb : (x == ("__debug__" : Str)) = false := by decide) (he : starEach (e :: es) X.env = (false, eval e X.env) :: starEach es X.env := by rfl) (hpl : (backTo pos (starEach es X.env)).any (·.1) = false := by rfl) :
    DPE X E (.Call (.Name x p) (e :: es) [] pos) (dCallV spec dr) := by
  obtain ⟨f, F, hm, hk⟩ := F.ex
  refine pe_imp (pe_callV F hr hgd hg hm hk ha hdb he hpl) fun σ H Q h => ?_
  obtain ⟨g, env, c, P, rel, q, kk⟩ := h
  refine ⟨g, env, c, _, rel, q, fun xs c1 g1 H1 vs p1 m1 r1 o1 f1 => ?_⟩
  show spV X.K spec (vs ++ []) H1 Q E0
  rw [List.append_nil]
  obtain ⟨ds, h1, h2⟩ := datsK_all o1 p1
  exact ⟨g1, c1, ds, P, r1.ex, r1.dk, h2, h1.1, h1.2, fun y c2 g2 H2 v p2 m2 ex dk ok fr => kk y c2 g2 H2 v p2 (m1.trans m2) (r1.call m2 ex dk) ok fr⟩
end
section
variable {P : Program} {w : World} {K : PySem.W.Frag} {mg : Str → Option Value} {base : Heap}
theorem defV_of {x qual : Str} {st : Stmt} {f : Addr} {fd : FuncData} {N : List Str} {pv : Str} {k : Nat} {dt : DS} (F : Fun K x qual st f fd) (S : FnScope N [pv] (defScope st)) (hm : mg x = some (.ref f))
    (hbd : ∀ rest : List Value, bindArgs fd ⟨rest, []⟩ = (newTuple rest >>= fun t => pure [(pv, t)]))
    (h : ∀ (cdv : Value) (A : Around) (outer : List Env) (s : Shared) (H : Hp) (E : En), Room k (A.deeper (envOfC qual (defScope st) s.heap.objs.size f cdv)) → (A.deeper (envOfC qual (defScope st) s.heap.objs.size f cdv)).guards = some [] →
      DPSs (bodyCx P w K mg base N qual st f cdv A outer s H) E (defBody st) dt) : DefV P w K mg base (k + 1) x (bodySpec N.length dt) := by
  have FV := fnV_star (P := P) (w := w) (mg := mg) (base := base) (sp := spD K 1 (bodySpec N.length dt)) F S hbd (fun cdv A outer s H vs Q hr hgd q => by
    obtain ⟨g, c, args, P', ex, dk, ok, fr, hl, hs, kk⟩ := q
    refine ⟨_, h cdv A outer s H ⟨g, H, false⟩ hr hgd, g, _, c, _, start_rel ex dk ok fr, hs, fun env' c' g' σ' H' p m r => ?_, fun y c' env' g' σ' H' v p m r o f => ?_, fun _ _ _ _ _ p => p.elim, fun _ _ _ _ _ p => p.elim⟩
    · exact kk _ c' g' H' .non p ⟨⟨r.mo, r.md rfl⟩, r.fr, fun a o e => r.old e, r.nf⟩ r.ex r.dk .non trivial
    · exact kk y c' g' H' v p ⟨⟨r.mo, r.md rfl⟩, r.fr, fun a o e => r.old e, r.nf⟩ r.ex r.dk o f)
  refine ⟨f, ⟨fun A outer s H us vs Q room quiet e0 r want => FV.run A outer s H us vs Q room quiet e0 r ?_⟩, hm, F.kp⟩
  obtain ⟨g, c, ds, P', ex, dk, ok, hl, hs, kk⟩ := want
  refine ⟨by rw [DpAll.len ok]; exact hl, fun p hp => ?_⟩
  have r0 : Rel K ⟨g, H, false⟩ g (startE ([] : List Str).length []) c (start [] []) H := start_rel (vs := []) (args := []) ex dk trivial (fun x hx => by cases hx)
  obtain ⟨r1, m1⟩ := r0.new (.tup vs) hp
  refine ⟨_, c, [.dat (.tuple ds)], P', r1.ex, r1.dk, ⟨.tup (.of upd_same) (dpAll_mono m1.f ok), trivial⟩, fun x hx => ?_, rfl, hs, fun y c2 g2 H2 v p2 m2 ex dk ok fr => kk y c2 g2 H2 v p2 (m1.trans m2) ex dk ok fr⟩
  cases List.mem_singleton.mp hx
  trivial
end
end DL
set_option maxHeartbeats 2000000
/-! in, not in -/
namespace DL
open PySem PySem.Spec PyProof.Rows L2
def flatP : PyData → Bool
  | .none => true
  | .bool _ => true
  | .int _ => true
  | .str _ => true
  | _ => false
def eqP : PyData → PyData → Bool
  | .none, .none => true
  | .bool a, .bool b => a == b
  | .bool a, .int b => (if a then 1 else 0) == b
  | .int a, .bool b => a == (if b then 1 else 0)
  | .int a, .int b => a == b
  | .str a, .str b => a == b
  | _, _ => false
def rdIn (neg : Bool) : PyData → PyData → (PyData → Prop) → Prop := fun d e P => match e with
  | .list es => flatP d = true ∧ es.all flatP = true ∧ P (.bool (if neg then !(es.any fun y => eqP y d) else es.any fun y => eqP y d))
  | .tuple es => flatP d = true ∧ es.all flatP = true ∧ P (.bool (if neg then !(es.any fun y => eqP y d) else es.any fun y => eqP y d))
  | _ => False
theorem flat_dp {K : PySem.W.Frag} {H : Hp} {v : V} {d : PyData} (h : Dp K H v d) (hd : flatP d = true) : flatV v = true := by
  cases h <;> first | rfl | (simp [flatP] at hd; done)
theorem eq_dp {K : PySem.W.Frag} {H : Hp} {v u : V} {d e : PyData} (h : Dp K H v d) (h2 : Dp K H u e) (hd : flatP d = true) (he : flatP e = true) : eqV v u = eqP d e := by
  cases h <;> cases h2 <;> first | rfl | (simp [flatP] at hd; done) | (simp [flatP] at he; done)
theorem flats_dp {K : PySem.W.Frag} {H : Hp} : ∀ {vs : List V} {ds : List PyData}, DpAll K H vs ds → ds.all flatP = true → vs.all flatV = true
  | _, _, .nil, _ => rfl
  | _, _, .cons h t, hd => by
    simp only [List.all_cons, Bool.and_eq_true] at hd ⊢
    exact ⟨flat_dp h hd.1, flats_dp t hd.2⟩
theorem in_dp {K : PySem.W.Frag} {H : Hp} {v : V} {d : PyData} (h : Dp K H v d) (hf : flatP d = true) : ∀ {vs : List V} {ds : List PyData}, DpAll K H vs ds → ds.all flatP = true → inV v vs = ds.any fun y => eqP y d
  | _, _, .nil, _ => rfl
  | _, _, .cons (v := x) (vs := vs) a t, hd => by
    simp only [List.all_cons, Bool.and_eq_true] at hd
    have ih := in_dp h hf t hd.2
    show (eqV x v || vs.any fun y => eqV y v) = _
    rw [eq_dp a h hd.1 hf]
    show _ = (_ || _)
    rw [← ih]
    rfl
theorem opd_in {K : PySem.W.Frag} {neg : Bool} : OpD K (rIn K neg) (rdIn neg) := by
  intro E g env c σ H x y d e P Q r hx hy q k
  unfold rdIn at q
  split at q
  · cases hy with
    | lst hs ha =>
      refine ⟨_, _, rfl, .inl (r.ex.seq hs), flat_dp hx q.1, flats_dp ha q.2.1, ?_⟩
      rw [in_dp hx q.1 ha q.2.1]
      exact k _ g H _ q.2.2 (Mv.refl g H) r (.bl _)
  · cases hy with
    | tup hs ha =>
      refine ⟨_, _, rfl, .inr (seqT r.ex hs), flat_dp hx q.1, flats_dp ha q.2.1, ?_⟩
      rw [in_dp hx q.1 ha q.2.1]
      exact k _ g H _ q.2.2 (Mv.refl g H) r (.bl _)
  · exact q.elim
section
variable {X : Cx} {E : En} {a b : Expr} {da db : DE} {pos : Pos}
theorem de_in (ha : DPE X E a da) (hb : DPE X E b db) (hm : behindInMarks .In b = false := by rfl) : DPE X E (.Compare a [.In] [b] pos) (dOp (rdIn false) da db) := de_cmp op_in_seq opd_in ha hb hm
theorem de_notIn (ha : DPE X E a da) (hb : DPE X E b db) (hm : behindInMarks .NotIn b = false := by rfl) : DPE X E (.Compare a [.NotIn] [b] pos) (dOp (rdIn true) da db) := de_cmp op_notIn_seq opd_in ha hb hm
theorem dt_in (ha : DPE X E a da) (hb : DPE X E b db) (hm : behindInMarks .In b = false := by rfl) : DPT X E (.Compare a [.In] [b] pos) (tVal (dOp (rdIn false) da db)) := dt_cmp op_in_seq opd_in ha hb hm
theorem dt_notIn (ha : DPE X E a da) (hb : DPE X E b db) (hm : behindInMarks .NotIn b = false := by rfl) : DPT X E (.Compare a [.NotIn] [b] pos) (tVal (dOp (rdIn true) da db)) := dt_cmp op_notIn_seq opd_in ha hb hm
/-! ### sum of a list of one's own -/
def dOwnSum (i : Nat) : DE := fun env c P => match env[i]? with
  | some (some (.own l)) => ∃ ns, intsOf l = some ns ∧ P (.dat (.int ns.sum)) c
  | _ => False
theorem de_ownSum (i : Nat) {x : Str} {p1 p2 : Pos} (hm : X.mg "sum" = none) (hN : X.N[i]? = some x := by rfl) (hv : Vis X.env.scope x := by first | exact Or.inl rfl | exact Or.inr (Or.inl rfl) | exact Or.inr (Or.inr rfl)) (h1 : (x == ("__debug__" : Str)) = false := by decide)
    (h2 : (x == ("__classdict__" : Str)) = false := by decide) (hg : Gl X "sum" := by rfl) (hc : X.calm = true := by rfl)
    (he : starEach [.Name x p1] X.env = (false, eval (.Name x p1) X.env) :: starEach [] X.env := by rfl) (hpl : (backTo pos (starEach [] X.env)).any (·.1) = false := by rfl) : DPE X E (.Call (.Name "sum" p2) [.Name x p1] [] pos) (dOwnSum i) := by
  refine pe_imp (pe_callB (cr_sum hc) hg hm (by decide +kernel) (pa_cons (pe_var hN hv h1 h2) pa_nil he) (by decide) (by decide) he hpl) fun σ H Q h => ?_
  obtain ⟨g, env, c, P, rel, q, k⟩ := h
  unfold dOwnSum at q
  split at q
  · rename_i l e
    obtain ⟨v, e1, p, xs, rfl, h3, h4, h5, h6⟩ := rel.sl i _ e
    obtain ⟨ns, en, q⟩ := q
    have ex := intsOf_dp en h6
    subst ex
    exact ⟨_, e1, p, ns, rfl, .of h5, k _ c g H _ q (Mv.refl g H) rel (.int _) trivial⟩
  · exact q.elim
end
section
variable {X : Cx} {E : En} {tg a elt : Expr} {pos : Pos}
/-- y = [..], a list of one's own -/
theorem ds_ownLc {ifs : List Expr} {scope : Scope} {spos py : Pos} {y : Str} (i : Nat) (own : List (Str × Nat)) {dw : DI} {ws : List Nat} {dg : DG} {dt : DT} {de : DE} (hN : X.N.Nodup) (hi : DPI X E tg a dw) (ok : BlkOk X.N X.env.scope scope own)
    (hg : ∀ (s : Shared) (H : Hp) (C : Addr) (cl : List (Str × Addr)) (fp : List Addr), DPG (X.blk s H scope (compEnvC scope cl C X.env) fp) E ws tg dg)
    (ht : ∀ (s : Shared) (H : Hp) (C : Addr) (cl : List (Str × Addr)) (fp : List Addr), DPTs (X.blk s H scope (compEnvC scope cl C X.env) fp) E ifs dt)
    (he : ∀ (s : Shared) (H : Hp) (C : Addr) (cl : List (Str × Addr)) (fp : List Addr), DPE (X.blk s H scope (compEnvC scope cl C X.env) fp) E elt de)
    (hsw : swapsWith (.ListComp elt [⟨tg, a, ifs, 0⟩] scope pos) (some (.Name y py)) spos.line X.env = pure true)
    (hws : ∀ i ∈ ws, i ∈ own.map (·.2) := by decide) (hy : X.N[i]? = some y := by rfl) (hyl : X.env.scope.names.lookup y = some .local := by rfl) (hc : X.calm = true := by rfl) (hs : ∀ x, foldedSetIterable a X.env x = pure x := by intro _; rfl) :
    DPS X E (.Assign [.Name y py] (.ListComp elt [⟨tg, a, ifs, 0⟩] scope pos) spos) (sOwn i (fLc dw dg dt de (own.map (·.2)))) := by
  refine ps_imp (ps_setLc (g := upG X.K E ws dg) (tt := upT X.K E dt) (te := up X.K E de) hc hN hy hyl hsw hi ok hg ht he hs) fun D σ H h => ?_
  obtain ⟨g, env, c, P, rel, q, k, _⟩ := h
  refine lcF_up hws ⟨g, env, c, _, rel, q, fun l c1 g1 H1 p xs hl m1 r1 hp hp' hF ha => ?_⟩
  exact k _ c1 g1 _ H1 hl m1.f (r1.takeOwn i (Frs.of rel m1 hp hp' hF ha))
end
end DL
set_option maxHeartbeats 2000000
/-! exceptions: defs that raise, calls of them, try -/
namespace DL
open PySem PySem.Spec PyProof.Rows L2
/-- what is wanted of an exception: its class's name, its fields, the slots, the draws -/
abbrev XW := Str → List (Str × PyData) → Ev → Nat → Prop
abbrev Xd := Str → List (Str × PyData) → Nat → Prop
/-- how an exception stands: of the class named x, with these fields -/
def XOk (K : PySem.W.Frag) (mg : Str → Option Value) (F H : Hp) (nd : Addr → Prop) (x : Str) (fs : List (Str × PyData)) (cls : Value) (d : Option Addr) : Prop :=
  ∃ C, mg x = some (.ref C) ∧ cls = .ref C ∧ ((fs = [] ∧ d = none) ∨ ∃ dd vs, d = some dd ∧ H dd = some (.xd vs) ∧ nd dd ∧ vs.map (·.1) = fs.map (·.1) ∧ DpAll K F (vs.map (·.2)) (fs.map (·.2)))
def upW (K : PySem.W.Frag) (mg : Str → Option Value) (E : En) (W : XW) : WX := fun cls d σ H => ∃ g env c x fs, Rel K E g env c σ H ∧ XOk K mg g.F H (fun a => ¬ isDk g a) x fs cls d ∧ W x fs env c
structure FnX (P : Program) (w : World) (K : PySem.W.Frag) (mg : Str → Option Value) (base : Heap) (k : Nat) (f : Addr) (fd : FuncData) (ps : List Str) (sp : Sp) : Prop where
  len : ∀ vs H Q E, sp vs H Q E → vs.length = ps.length
  run : ∀ (A : Around) (outer : List Env) (s : Shared) (H : Hp) (us : List Value) (vs : List V) (Q : VK) (E : XK), Room k A → A.guards = some [] → Env0 P w K mg base A outer s H → BindsTo s fd ⟨us, []⟩ (ps.zip us) → Vals vs us → sp vs H Q E →
    codeAny (model P w) A (.call (.ref f) ⟨us, []⟩) (CR (L2.CX P w) outer P w H s Q E) s
section
variable {P : Program} {w : World} {K : PySem.W.Frag} {mg : Str → Option Value} {base : Heap}
theorem fnX_of {x qual : Str} {st : Stmt} {f : Addr} {fd : FuncData} {N ps : List Str} {k : Nat} {sp : Sp} (F : Fun K x qual st f fd) (S : FnScope N ps (defScope st)) (len : ∀ vs H Q E, sp vs H Q E → vs.length = ps.length)
    (hb : ∀ (cdv : Value) (A : Around) (outer : List Env) (s : Shared) (H : Hp) (vs : List V) (Q : VK) (E : XK), Room k (A.deeper (envOfC qual (defScope st) s.heap.objs.size f cdv)) → A.guards = some [] → sp vs H Q E →
      ∃ t, PSs (cxOf (L2.CX P w) P w K mg base N qual (defScope st) f cdv A outer s H E) (defBody st) t ∧ t { nx := fun _ H' => Q .non H', rt := Q } (start N vs) H) : FnX P w K mg base (k + 1) f fd ps sp := by
  obtain ⟨oc, od, kV, doc, pm, an, cdv, ct, osl, rfl, lk, hcd⟩ := F.ex
  refine ⟨len, fun A outer s H us vs Q E room quiet env0 bind vals want => ?_⟩
  have inK := env0.mod.kin.keeps fun b o e => (env0.bs b o e).1
  have nolim := env0.mod.nolimit.keeps fun b o e => (env0.bs b o e).1
  refine codeAny_call_function room.depth (inK _ _ lk) rfl S.co S.gen rfl (PySem.W.codeRec_of inK hcd) (bind _ _ _ _ ?_)
  refine wpAny_newFunctionEnv_cells S.kind (fun y hy => ?_) fun env he s1 ic => ?_
  · rcases S.par y.1 (List.of_mem_zip (a := y.1) (b := y.2) hy).1 with q | q
    · exact Or.inl q
    · exact Or.inr ⟨q, PySem.W.cellsFrom_some _ _ _ (Or.inl q)⟩
  · subst he
    refine ⟨nolim.keeps ic.toInCall.keep, codeAny_func ?_⟩
    obtain ⟨t, derivation, reading⟩ := hb cdv A outer s H vs Q E (room.deeper _) quiet want
    have J0 := inv_start (CX := L2.CX P w) (E := E) (P := P) (w := w) (mg := mg) S room.hd env0 (len _ _ _ _ want) vals ic
    refine wpAny_mono (derivation.run [] s1 (start N vs) H _ J0 reading) (fun fl s' done => ?_) (fun e s' bad => bad)
    cases fl with
    | next =>
      obtain ⟨σ', H', J, q⟩ := done
      exact ⟨V.non, H', J.os, J.bare, J.base, J.hok, rfl, q⟩
    | ret u =>
      obtain ⟨v, σ', H', J, rv, q⟩ := done
      exact ⟨v, H', J.os, J.bare, J.base, J.hok, rv, q⟩
    | brk =>
      obtain ⟨σ', H', J, q⟩ := done
      exact False.elim q
    | cont =>
      obtain ⟨σ', H', J, q⟩ := done
      exact False.elim q
end
section
variable {X : Cx} {k : Nat} {f : Addr} {fd : FuncData} {ps : List Str} {sp : Sp} {x : Str} {p pos : Pos} {e : Expr} {es : List Expr} {t : TA} {W : WX}
theorem pe_callX (F : FnX X.prog X.w X.K X.mg X.base k f fd ps sp) (hr : Room k X.A) (hgd : X.A.guards = some []) (tk : Takes X W) (hg : Gl X x) (hm : X.mg x = some (.ref f)) (hk : PySem.W.keepIn X.K (.ref f) = true) (hb : Binds X.K fd ps []) (ha : PA X (e :: es) t)
    (hdb : (x == ("__debug__" : Str)) = false := by decide) (he : starEach (e :: es) X.env = (false, eval e X.env) :: starEach es X.env := by rfl) (hpl : (backTo pos (starEach es X.env)).any (·.1) = false := by rfl) :
    PE X (.Call (.Name x p) (e :: es) [] pos) (fun σ H Q => t σ H fun vs H1 => sp vs H1 Q (fun cls d H2 => W cls d σ H2)) := by
  constructor
  intro pins s σ H Q I h
  refine wpAny_Call_Name_kw (ld_glob I hg hm (PySem.W.callWith_K (h₀ := X.base) I.ok.mod.kin hk ?_ he hpl) hdb)
  refine thn (ha.run pos pins s σ H _ I h) fun us s1 hq => ?_
  obtain ⟨vs, H1, I1, r, q⟩ := hq
  have hl : us.length = ps.length := by
    rw [← r.length]
    exact F.len _ _ _ _ q
  have hbd := hb s1 us I1.kIn (by rw [List.append_nil]; exact hl)
  rw [List.append_nil] at hbd
  refine ⟨I1.kIn, wpAny_call (codeAny_mono (F.run X.A X.stack s1 H1 us vs Q _ hr hgd I1.env0 hbd r q) fun rr s' hrr => ?_)⟩
  match rr, hrr with
  | .error e', z => exact L2.passAt tk σ pins H1 s1 e' s' I1 z
  | .ok .next, z => exact z.elim
  | .ok .brk, z => exact z.elim
  | .ok .cont, z => exact z.elim
  | .ok (.ret u), z => exact I1.after z
end
abbrev SpecX := List Vl → Nat → (Vl → Nat → Prop) → Xd → Prop
def spDX (K : PySem.W.Frag) (mg : Str → Option Value) (n : Nat) (spec : SpecX) : Sp := fun vs H Q E => ∃ g c args P Px, Same g.F H ∧ DeckOk g H c ∧ VOks K g H vs args ∧ (∀ x ∈ args, free x) ∧ args.length = n ∧ spec args c P Px ∧
  (∀ x c' g' H' v, P x c' → Mv g H g' H' → Same g'.F H' → DeckOk g' H' c' → VOk K g' H' v x → free x → Q v H') ∧
  ∀ x fs c' g' H' cls d, Px x fs c' → Mv g H g' H' → Same g'.F H' → DeckOk g' H' c' → XOk K mg g'.F H' (fun a => ¬ isDk g' a) x fs cls d → E cls d H'
structure DefX (P : Program) (w : World) (K : PySem.W.Frag) (mg : Str → Option Value) (base : Heap) (k : Nat) (x : Str) (n : Nat) (spec : SpecX) : Prop where
  ex : ∃ f fd ps, FnX P w K mg base k f fd ps (spDX K mg n spec) ∧ mg x = some (.ref f) ∧ PySem.W.keepIn K (.ref f) = true ∧ Binds K fd ps []
section
variable {X : Cx} {E : En} {k n : Nat} {spec : SpecX} {x : Str} {p pos : Pos} {e : Expr} {es : List Expr} {dr : DA} {W : XW}
def dCallX (n : Nat) (spec : SpecX) (W : XW) (dr : DA) : DE := fun env c P => dr env c fun xs c1 => xs.length = n ∧ spec xs c1 P fun y fs c2 => W y fs env c2
theorem de_callX (F : DefX X.prog X.w X.K X.mg X.base k x n spec) (hr : Room k X.A) (hgd : X.A.guards = some []) (tk : Takes X (upW X.K X.mg E W)) (ha : DPA X E (e :: es) dr) (hg : Gl X x := by rfl)
    (hdb : (x == ("__debug__" : Str)) = false := by decide) (he : starEach (e :: es) X.env = (false, eval e X.env) :: starEach es X.env := by rfl) (hpl : (backTo pos (starEach es X.env)).any (·.1) = false := by rfl) :
    DPE X E (.Call (.Name x p) (e :: es) [] pos) (dCallX n spec W dr) := by
  obtain ⟨f, fd, ps, F, hm, hk, hb⟩ := F.ex
  refine pe_imp (pe_callX F hr hgd tk hg hm hk hb ha hdb he hpl) fun σ H Q h => ?_
  obtain ⟨g, env, c, P, rel, q, kk⟩ := h
  refine ⟨g, env, c, _, rel, q, fun xs c1 g1 H1 vs p1 m1 r1 o1 f1 => ?_⟩
  exact ⟨g1, c1, xs, P, _, r1.ex, r1.dk, o1, f1, p1.1, p1.2, fun y c2 g2 H2 v p2 m2 ex dk ok fr => kk y c2 g2 H2 v p2 (m1.trans m2) (r1.call m2 ex dk) ok fr,
    fun y fs c2 g2 H2 cls d p2 m2 ex dk xok => ⟨g2, env, c2, y, fs, r1.call m2 ex dk, xok, p2⟩⟩
end
def bodySpecX (N : Nat) (dt : Xd → DS) : SpecX := fun args c P Px => dt Px { nx := fun _ c' => P (.dat .none) c', rt := P, bk := fun _ _ => False, ct := fun _ _ => False } (startE N args) c
section
variable {P : Program} {w : World} {K : PySem.W.Frag} {mg : Str → Option Value} {base : Heap}
abbrev bodyCxX (P : Program) (w : World) (K : PySem.W.Frag) (mg : Str → Option Value) (base : Heap) (N : List Str) (qual : Str) (st : Stmt) (f : Addr) (cdv : Value) (A : Around) (outer : List Env) (s : Shared) (H : Hp) (E : XK) : Cx :=
  cxOf (L2.CX P w) P w K mg base N qual (defScope st) f cdv A outer s H E
theorem defX_of {x qual : Str} {st : Stmt} {f : Addr} {fd : FuncData} {N ps : List Str} {k n : Nat} {dt : Xd → DS} (F : Fun K x qual st f fd) (S : FnScope N ps (defScope st)) (hm : mg x = some (.ref f)) (hb : Binds K fd ps []) (hn : ps.length = n)
    (h : ∀ (cdv : Value) (A : Around) (outer : List Env) (s : Shared) (H : Hp) (EX : XK) (E : En) (Px : Xd), Room k (A.deeper (envOfC qual (defScope st) s.heap.objs.size f cdv)) → (A.deeper (envOfC qual (defScope st) s.heap.objs.size f cdv)).guards = some [] →
      Takes (bodyCxX P w K mg base N qual st f cdv A outer s H EX) (upW K mg E fun y fs _ c => Px y fs c) → DPSs (bodyCxX P w K mg base N qual st f cdv A outer s H EX) E (defBody st) (dt Px)) : DefX P w K mg base (k + 1) x n (bodySpecX N.length dt) := by
  refine ⟨f, fd, ps, fnX_of F S (fun vs H Q E q => ?_) (fun cdv A outer s H vs Q EX hr hgd q => ?_), hm, F.kp, hb⟩
  · obtain ⟨g, c, args, P, Px, _, _, ok, _, hl, _⟩ := q
    rw [VOks.len ok, hl, hn]
  · obtain ⟨g, c, args, P', Px, ex, dk, ok, fr, hl, hs, kk, kx⟩ := q
    have tk : Takes (bodyCxX P w K mg base N qual st f cdv A outer s H EX) (fun cls d _ H => EX cls d H) := takes_of rfl rfl rfl rfl
    refine ⟨_, h cdv A outer s H EX ⟨g, H, false⟩ Px hr hgd (tk.imp fun cls d σ H2 z => ?_), g, _, c, _, start_rel ex dk ok fr, hs, fun env' c' g' σ' H' p m r => ?_, fun y c' env' g' σ' H' v p m r o f => ?_, fun _ _ _ _ _ p => p.elim, fun _ _ _ _ _ p => p.elim⟩
    · obtain ⟨g2, env2, c2, y, fs, r, xok, px⟩ := z
      exact kx y fs c2 g2 H2 cls d px ⟨⟨r.mo, r.md rfl⟩, r.fr, fun a o e => r.old e, r.nf⟩ r.ex r.dk xok
    · exact kk _ c' g' H' .non p ⟨⟨r.mo, r.md rfl⟩, r.fr, fun a o e => r.old e, r.nf⟩ r.ex r.dk .non trivial
    · exact kk y c' g' H' v p ⟨⟨r.mo, r.md rfl⟩, r.fr, fun a o e => r.old e, r.nf⟩ r.ex r.dk o f
end
end DL
set_option maxHeartbeats 2000000
namespace DL
open PySem PySem.Spec PyProof.Rows L2
/-! ### an object more, which no data knows -/
theorem Rel.extra {K : PySem.W.Frag} {E : En} {g : Gh} {env : Ev} {c : Nat} {σ : L2.St} {H : Hp} (r : Rel K E g env c σ H) {p : Addr} (o : HO) (hp : H p = none) : Rel K E g env c σ (upd H p o) ∧ Mv g H g (upd H p o) := by
  have keep : ∀ b u, H b = some u → upd H p o b = some u := fun b u e => by
    rw [upd_ne (ne_of_none e hp)]
    exact e
  refine ⟨⟨r.mo, r.md, r.mt, r.dn, r.nf, fun b u e n => keep b u (r.fr b u e n), r.nw, fun b u e => keep b u (r.ex b u e), fun i x e => ?_, r.ap, fun p q e => ?_, r.len⟩, ⟨Mo.refl _, fun b u e _ => keep b u e, fun b u e => ⟨u, keep b u e⟩, fun b u e => .inl e⟩⟩
  · obtain ⟨v, h1, h2⟩ := r.sl i x e
    refine ⟨v, h1, ?_⟩
    cases x with
    | dat d => exact h2
    | deck => exact h2
    | exc _ => exact h2
    | own l =>
      obtain ⟨b, xs, e1, h3, h4, h5, h6⟩ := h2
      exact ⟨b, xs, e1, h3, h4, keep b _ h5, h6⟩
  · obtain ⟨h1, h2, h3, ns, h4, h5, h6, yk, h7, h8⟩ := r.dk p q e
    exact ⟨h1, h2, h3, ns, h4, h5, keep q _ h6, yk, keep p _ h7, h8⟩
/-! ### __init__(self, v): self.f = v -/
def spInit (K : PySem.W.Frag) (f : Str) : Sp := fun vs H Q _ => ∃ (a C : Addr) (y : V), vs = [.ref a, y] ∧ OexC K C ∧ PySem.W.findIn K (.ref C) f = some none ∧ H a = some (exo a C none) ∧
  ∀ dx, H dx = none → dx ≠ a → Q .non (upd (upd H dx (exd dx [(f, y)])) a (exo a C (some dx)))
section
variable {P : Program} {w : World} {K : PySem.W.Frag} {mg : Str → Option Value} {base : Heap}
theorem init_ok {qual : Str} {st : Stmt} {f : Addr} {fd : FuncData} {s1 s2 fld : Str} {p1 p2 p3 p4 : Pos} {k : Nat} (F : Fun K "__init__" qual st f fd) (S : FnScope [s1, s2] [s1, s2] (defScope st))
    (hb : defBody st = [.Assign [.Attribute (.Name s1 p1) fld p2] (.Name s2 p3) p4])
    (h1 : (s1 == ("__debug__" : Str)) = false) (h2 : (s1 == ("__classdict__" : Str)) = false) (h3 : (s2 == ("__debug__" : Str)) = false) (h4 : (s2 == ("__classdict__" : Str)) = false)
    (v1 : Vis (defScope st) s1) (v2 : Vis (defScope st) s2) : FnOk P w K mg base CX0 (k + 1) f fd [s1, s2] (spInit K fld) := by
  refine F.ok S (fun vs H Q E q => ?_) (fun cdv A outer s H vs Q E hr q => ?_)
  · obtain ⟨a, C, y, rfl, _⟩ := q
    rfl
  · rw [hb]
    refine ⟨_, pss_cons (ps_ost (pe_var (i := 0) rfl v1 h1 h2) (pe_var (i := 1) rfl v2 h3 h4)) pss_nil, ?_⟩
    obtain ⟨a, C, y, rfl, T, hno, ha, kk⟩ := q
    exact ⟨y, rfl, .ref a, rfl, a, C, rfl, T, hno, .inl ⟨ha, fun dx hd hne => kk dx hd hne⟩⟩
end
/-- an own class of errors with one field -/
structure ExC (P : Program) (w : World) (K : PySem.W.Frag) (mg : Str → Option Value) (base : Heap) (x f : Str) : Prop where
  ex : ∃ C fI fd s1 s2, mg x = some (.ref C) ∧ OexC K C ∧ PySem.W.findIn K (.ref C) "__init__" = some (some (.ref fI)) ∧ PySem.W.typeIn K (.ref fI) = some (.type "function") ∧ FnOk P w K mg base CX0 1 fI fd [s1, s2] (spInit K f) ∧ Binds K fd [s1, s2] [] ∧ PySem.W.findIn K (.ref C) f = some none
def sRaise (x f : Str) (W : XW) (da : DE) : DS := fun _ env c => da env c fun v c1 => datK v fun z => W x [(f, z)] env c1
section
variable {X : Cx} {E : En} {x f : Str} {p pos pos' : Pos} {e : Expr} {da : DE} {W : XW} {k : Nat}
theorem ds_raise (C : ExC X.prog X.w X.K X.mg X.base x f) (hr : Room 2 X.A) (tk : Takes X (upW X.K X.mg E W)) (ha : DPE X E e da) (hc : X.calm = true := by rfl) (hg : Gl X x := by rfl)
    (hdb : (x == ("__debug__" : Str)) = false := by decide) (he : starEach [e] X.env = (false, eval e X.env) :: starEach [] X.env := by rfl) (hpl : (backTo pos (starEach [] X.env)).any (·.1) = false := by rfl) :
    DPS X E (.Raise (some (.Call (.Name x p) [e] [] pos)) none pos') (sRaise x f W da) := by
  obtain ⟨C, fI, fd, s1, s2, hm, T, iC, tI, F, hb, hno⟩ := C.ex
  refine ps_imp (ps_raise hc tk (pmk_oex (CX := CX0) (ds := []) (dvs := []) T iC tI F hr hb .nil pass0 hg hm (da_cons ha da_nil he) hdb he hpl)) fun D σ H h => ?_
  obtain ⟨g, env, c, P, rel, q, _⟩ := h
  refine ⟨g, env, c, (fun xs c1 => match xs with | [v] => datK v fun z => W x [(f, z)] env c1 | _ => False), rel, q, fun xs c1 g1 H1 vs p1 m1 r1 o1 f1 => ?_⟩
  · obtain ⟨z, rfl, hw⟩ : ∃ z, xs = [.dat z] ∧ W x [(f, z)] env c1 := by
      match xs, p1 with
      | [.dat z], p1 => exact ⟨z, rfl, p1⟩
      | [.deck], p1 => exact p1.elim
      | [.exc _], p1 => exact p1.elim
      | [.own _], p1 => exact p1.elim
    match vs, o1 with
    | [y], o1 =>
      refine ⟨by show 1 ≤ 1000; decide, fun a ha0 => ?_⟩
      refine ⟨a, C, y, rfl, T, hno, upd_same, fun dx hdx hne => ⟨rfl, dx, [(f, y)], upd_same, ?_, ?_, ?_⟩⟩
      · rw [upd_ne hne, upd_same]
      · rw [upd_ne hne] at hdx
        exact hdx
      · have hd1 : H1 dx = none := by
          rw [upd_ne hne] at hdx
          exact hdx
        have eH : upd (del (upd (upd (upd H1 a (exo a C none)) dx (exd dx [(f, y)])) a (exo a C (some dx))) a) dx (.xd [(f, y)]) = upd H1 dx (.xd [(f, y)]) := by
          funext b
          by_cases hbd : b = dx
          · rw [hbd, upd_same, upd_same]
          · rw [upd_ne hbd, upd_ne hbd]
            by_cases hba : b = a
            · rw [hba, del_same, ha0]
            · rw [del_ne hba, upd_ne hba, upd_ne hbd, upd_ne hba]
        rw [eH]
        obtain ⟨r2, m2⟩ := r1.extra (.xd [(f, y)]) hd1
        refine ⟨g1, env, c1, x, [(f, z)], r2, ⟨C, hm, rfl, .inr ⟨dx, [(f, y)], rfl, upd_same, fun hdk => ?_, rfl, .cons o1.1 .nil⟩⟩, hw⟩
        obtain ⟨o', e⟩ := r1.deckLive hdk
        rw [hd1] at e
        cases e
end
/-! ### try: .. except x as n: .. -/
def NoOwn (env : Ev) : Prop := ∀ (i : Nat) (l : List PyData), env[i]? ≠ some (some (Vl.own l))
theorem Rel.setExc {K : PySem.W.Frag} {E : En} {g : Gh} {env : Ev} {c : Nat} {σ : L2.St} {H : Hp} (r : Rel K E g env c σ H) (i : Nat) (a : Addr) : Rel K E g (env.set i (some (.exc a))) c (σ.set i (some (.ref a))) H := r.set i (x := .exc a) rfl trivial
/-- the slot goes -/
theorem Rel.setNone {K : PySem.W.Frag} {E : En} {g : Gh} {env : Ev} {c : Nat} {σ : L2.St} {H : Hp} (r : Rel K E g env c σ H) (i : Nat) : Rel K E g (env.set i none) c (σ.set i none) H := by
  have key : ∀ {j : Nat} {x : Vl}, (env.set i none)[j]? = some (some x) → j ≠ i ∧ env[j]? = some (some x) := fun {j x} e => by
    by_cases h : j = i
    · subst h
      by_cases hl : j < env.length
      · rw [List.getElem?_set_self hl] at e
        cases e
      · rw [List.getElem?_eq_none (by simpa using hl)] at e
        cases e
    · rw [List.getElem?_set_ne (Ne.symm h)] at e
      exact ⟨h, e⟩
  have sg : ∀ {j : Nat}, j ≠ i → (σ.set i none)[j]? = σ[j]? := fun {j} h => List.getElem?_set_ne (Ne.symm h)
  refine ⟨r.mo, r.md, r.mt, r.dn, r.nf, r.fr, fun j l e a es => ?_, r.ex, fun j x e => ?_, fun j1 j2 l1 l2 a hne e1 e2 es => ?_, r.dk, by simpa using r.len⟩
  · obtain ⟨h, e'⟩ := key e
    rw [sg h] at es
    exact r.nw j l e' a es
  · obtain ⟨h, e'⟩ := key e
    obtain ⟨v, h1, h2⟩ := r.sl j x e'
    exact ⟨v, by rw [sg h]; exact h1, h2⟩
  · obtain ⟨h, e1'⟩ := key e1
    obtain ⟨h', e2'⟩ := key e2
    rw [sg h] at es
    rw [sg h']
    exact r.ap j1 j2 l1 l2 a hne e1' e2' es
/-- the same frame, seen from here -/
theorem Rel.here {K : PySem.W.Frag} {E : En} {g : Gh} {env : Ev} {c : Nat} {σ : L2.St} {H : Hp} (r : Rel K E g env c σ H) (h : NoOwn env) : Rel K ⟨g, H, false⟩ g env c σ H :=
  ⟨Same.refl _, fun _ => rfl, (fun z => by cases z), fun a h => Or.inl h, fun a o h => Or.inl h, fun a o e _ => e, fun i l e => absurd e (h i l), r.ex, r.sl, r.ap, r.dk, r.len⟩
theorem Rel.behind {K : PySem.W.Frag} {E : En} {g g2 : Gh} {env env2 : Ev} {c c2 : Nat} {σ σ2 : L2.St} {H H2 : Hp} (r : Rel K E g env c σ H) (r2 : Rel K ⟨g, H, false⟩ g2 env2 c2 σ2 H2) (ht : E.top = false) : Rel K E g2 env2 c2 σ2 H2 := by
  have d2 : g2.dk = g.dk := r2.md rfl
  have key : ∀ a o, E.H a = some o → ¬ isDk E.g a → ¬ isDk g a := fun a o e n z => by
    rcases r.dn a z with w | w
    · exact n w
    · rw [e] at w
      cases w
  refine ⟨r.mo.trans r2.mo, fun h => d2.trans (r.md h), r.mt, fun a h => r.dn a ?_, fun a o e => ?_, fun a o e n => r2.fr a o (r.fr a o e n) (key a o e n), fun i l e a es => r.oldN (r2.nw i l e a es), r2.ex, r2.sl, r2.ap, r2.dk, r2.len⟩
  · obtain ⟨p, q, e, z⟩ := h
    exact ⟨p, q, d2 ▸ e, z⟩
  · rcases r2.nf a o e with h | h
    · exact r.nf a o h
    · exact Or.inr (r.oldN h)
def exEnds (i : Nat) (D : DEnds) : DEnds := { nx := fun env c => D.nx (env.set i none) c, rt := D.rt, bk := fun env c => D.bk (env.set i none) c, ct := fun env c => D.ct (env.set i none) c }
/-- i: the slot of the name; xs: the classes that may come -/
def sTry (i : Nat) (xs : List Str) (tb : XW → DS) (ts : Addr → Str → List (Str × PyData) → DS) : DS := fun D env c =>
  NoOwn env ∧ tb (fun x fs env' c' => x ∈ xs ∧ NoOwn env' ∧ ∀ a, ts a x fs (exEnds i D) (env'.set i (some (.exc a))) c') D env c
section
variable {X : Cx} {E : En} {i : Nat} {xs : List Str} {tb : XW → DS} {ts : Addr → Str → List (Str × PyData) → DS} {bx n : Str} {C0 : Addr} {body suite : List Stmt} {b₀ : Stmt} {np pos pos' : Pos}
theorem ds_try (hN : X.N.Nodup) (hcm : X.mg bx = some (.ref C0)) (hx : ∀ x ∈ xs, ∀ C, X.mg x = some (.ref C) → PySem.W.exmOne X.K (.ref C) (.ref C0) = some true) (ht : E.top = false)
    (hb : ∀ (E : En) (W : XW) (pn : List (Addr × Obj)) (xe : Value → Shared → Prop), Takes (X.tr pn xe) (upW X.K X.mg E W) → DPSs (X.tr pn xe) E body (tb W))
    (hsu : ∀ (a : Addr) (oe : Obj) (d : Option Addr) (pn : List (Addr × Obj)) (x : Str) (fs : List (Str × PyData)) (E' : En) (C : Addr), x ∈ xs → X.mg x = some (.ref C) → Zc (.ref C) d oe → (∃ vs, oe.data = .fields vs) → XOk X.K X.mg E'.g.F E'.H (fun a => ¬ isDk E'.g a) x fs (.ref C) d →
      DPSs (X.suite a ((a, oe) :: pn)) E' (b₀ :: suite) (ts a x fs))
    (hi : X.N[i]? = some n := by rfl) (hln : X.env.kindOf n = some .local := by rfl) (hg : Gl X bx := by rfl) (hdb : (bx == ("__debug__" : Str)) = false := by decide) (hs : X.stack = X.env :: X.outer := by rfl) (hf : X.env.frame = some X.env.locals := by rfl) :
    DPS X E (.Try body [.ExceptHandler (some (.Name bx np)) (some n) (b₀ :: suite) pos'] [] [] pos) (sTry i xs tb ts) := by
  refine ps_imp (ps_try_as (c := .ref C0) (i := i) (Wout := fun _ _ _ _ => False) (tb := fun W D σ H => ∃ E1 W', (∀ cls d σ H, upW X.K X.mg E1 W' cls d σ H → W cls d σ H) ∧ upS X.K E1 (tb W') D σ H)
    (ts := fun a cls d D σ H => ∃ x fs E' C, x ∈ xs ∧ X.mg x = some (.ref C) ∧ cls = .ref C ∧ XOk X.K X.mg E'.g.F E'.H (fun a => ¬ isDk E'.g a) x fs (.ref C) d ∧ upS X.K E' (ts a x fs) D σ H)
    hs hf hN hi hln ⟨hg, hdb, .inl hcm⟩ takes0 (fun W pn xe tk _ => ⟨fun pins s σ H D I h => ?_⟩) (fun a oe cls d pn hz hfl => ⟨fun pins s σ H D I h => ?_⟩)) fun D σ H h => ?_
  · obtain ⟨E1, W', hW, hu⟩ := h
    exact (hb E1 W' pn xe (tk.imp hW)).run pins s σ H D I hu
  · obtain ⟨x, fs, E', C, hxs, hm, ec, xok, hu⟩ := h
    subst ec
    exact (hsu a oe d pn x fs E' C hxs hm hz hfl xok).run pins s σ H D I hu
  · obtain ⟨g, env, c, P, rel, ⟨hno0, q⟩, k1, k2, k3, k4⟩ := h
    refine ⟨⟨g, H, false⟩, _, fun cls d σ2 H2 z => ?_, g, env, c, P, rel.here hno0, q, fun env3 c3 g3 σ3 H3 p m r => k1 _ c3 g3 _ H3 p m (rel.behind r ht), fun y c3 env3 g3 σ3 H3 v p m r o f => k2 y c3 env3 g3 σ3 H3 v p m (rel.behind r ht) o f, fun env3 c3 g3 σ3 H3 p m r => k3 _ c3 g3 _ H3 p m (rel.behind r ht), fun env3 c3 g3 σ3 H3 p m r => k4 _ c3 g3 _ H3 p m (rel.behind r ht)⟩
    obtain ⟨g2, env2, c2, x, fs, r2, xok, hxs, hno, hts⟩ := z
    obtain ⟨C, hm, ec, xf⟩ := id xok
    subst ec
    refine ⟨true, hx x hxs C hm, fun _ a ha => ?_, fun z => (nomatch z)⟩
    have back : ∀ {g3 : Gh} {env3 : Ev} {c3 : Nat} {σ3 : L2.St} {H3 : Hp}, Rel X.K ⟨g2, H2, false⟩ g3 env3 c3 σ3 H3 → Rel X.K E g3 env3 c3 σ3 H3 ∧ Same g.F g3.F := fun r => ⟨rel.behind (r2.behind r rfl) ht, r2.mo.trans r.mo⟩
    refine ⟨x, fs, ⟨g2, H2, false⟩, C, hxs, hm, rfl, xok, g2, _, c2, exEnds i P, (r2.here hno).setExc i a, hts a, ?_, ?_, ?_, ?_⟩
    · intro env3 c3 g3 σ3 H3 p m r
      exact k1 _ c3 g3 _ H3 p (back r).2 ((back r).1.setNone i)
    · intro y c3 env3 g3 σ3 H3 v p m r o f
      exact k2 y c3 env3 g3 σ3 H3 v p (back r).2 (back r).1 o f
    · intro env3 c3 g3 σ3 H3 p m r
      exact k3 _ c3 g3 _ H3 p (back r).2 ((back r).1.setNone i)
    · intro env3 c3 g3 σ3 H3 p m r
      exact k4 _ c3 g3 _ H3 p (back r).2 ((back r).1.setNone i)
end
end DL
set_option maxHeartbeats 2000000
namespace DL
open PySem PySem.Spec PyProof.Rows L2
/-! ### in an except suite: isinstance(e, ..), e.f -/
/-- what the written part says of a class of errors -/
structure XIs (K : PySem.W.Frag) (C : Addr) : Prop where
  hd : PySem.W.hasDictIn K C = true
  hga : PySem.W.findIn K (.ref C) "__getattribute__" = some (some (.builtin "BaseException.__getattribute__"))
  hgt : PySem.W.findIn K (.ref C) "__getattr__" = some none
  hsub : PySem.W.subIn K (.ref C) (.type "BaseException") = some true
  ha : PySem.W.findIn K (.ref C) "__class__" = some (some (.builtin "object.__class__"))
  hn : PySem.W.specialIn K (.builtin "object.__class__") "__get__" = some (some (.builtin "getset_descriptor.__get__"))
  htk : PySem.W.takesIn K (.builtin "object.__class__") = some true
  hm : PySem.W.mroIn K C (.type "object") = some true
theorem XIs.cls {K : PySem.W.Frag} {C : Addr} (h : XIs K C) : (PySem.W.clsIn K C).isSome = true := by
  obtain ⟨cd, hc, _⟩ := PySem.W.any_some h.hd
  rw [hc]
  rfl
theorem XIs.xf {K : PySem.W.Frag} {C : Addr} (h : XIs K C) : XfC K C := ⟨h.hga, h.hgt, h.hsub, h.hd⟩
/-- isinstance of an own class, from what the written part says -/
theorem kit_own {K : PySem.W.Frag} {C D : Addr} {b : Bool} (hd : PySem.W.hasDictIn K D = true) (ht : PySem.W.typeIn K (.ref D) = some (.type "type")) (hs : PySem.W.subIn K (.ref C) (.ref D) = some b) (hb : (Value.ref C == Value.ref D) = true → b = true) : PySem.W.kitOne K (.ref C) (.ref D) = some b := by
  obtain ⟨cd, hc, _⟩ := PySem.W.any_some hd
  unfold PySem.W.kitOne
  by_cases h : (Value.ref C == Value.ref D) = true
  · rw [if_pos h, hb h]
  · rw [if_neg h]
    show (if ((PySem.W.clsIn K D).isSome && PySem.W.typeIn K (.ref D) == some (.type "type")) = true then PySem.W.subIn K (.ref C) (.ref D) else none) = some b
    rw [if_pos (by rw [hc, ht]; rfl)]
    exact hs
theorem exm_own {K : PySem.W.Frag} {C D : Addr} {b : Bool} (hd : PySem.W.hasDictIn K D = true) (ht : PySem.W.typeIn K (.ref D) = some (.type "type")) (hx : PySem.W.subIn K (.ref D) (.type "BaseException") = some true) (hs : PySem.W.subIn K (.ref C) (.ref D) = some b) : PySem.W.exmOne K (.ref C) (.ref D) = some b := by
  obtain ⟨cd, hc, _⟩ := PySem.W.any_some hd
  unfold PySem.W.exmOne
  rw [if_pos (by rw [hx]; rfl)]
  show (if ((PySem.W.clsIn K D).isSome && PySem.W.typeIn K (.ref D) == some (.type "type")) = true then PySem.W.subIn K (.ref C) (.ref D) else none) = some b
  rw [if_pos (by rw [hc, ht]; rfl)]
  exact hs
section
variable {X : Cx} {a C : Addr} {oe : Obj} {d : Option Addr} {pn : List (Addr × Obj)} {cv : Value} {b : Bool}
theorem inst_suite {pins : List (Addr × Obj)} {σ : L2.St} {H : Hp} {s : Shared} (I : Inv (X.suite a ((a, oe) :: pn)) pins σ H s) (hz : Zc (.ref C) d oe) (hf : ∃ vs, oe.data = .fields vs) (hd : ∀ dd, d = some dd → ∃ vs, H dd = some (.xd vs)) : ∃ od, PySem.W.InstAt s.heap a oe C od := by
  obtain ⟨hget, _⟩ := I.pin (a, oe) (List.mem_append.mpr (.inl List.mem_cons_self))
  obtain ⟨vs, hv⟩ := hf
  cases d with
  | none =>
    refine ⟨none, ?_⟩
    obtain ⟨oc, od, oda, osl⟩ := oe
    obtain ⟨h1, h2⟩ := hz
    dsimp only at h1 h2 hv
    subst h1 h2 hv
    exact ⟨hget, rfl, rfl, trivial⟩
  | some dd =>
    obtain ⟨fs, ea⟩ := hd dd rfl
    have hx : ObjOk X.prog X.w H s.heap dd (.xd fs) := I.hok dd _ ea
    obtain ⟨mA, hns, hr⟩ := hx
    obtain ⟨od, ho, hl⟩ := lookIn_ns hns
    exact ⟨some od, ⟨hget, hz.1, by unfold PySem.W.notCls; rw [hv] <;> rfl, by rw [hz.2]; exact ho⟩⟩
def rIsX (K : PySem.W.Frag) (C a : Addr) (d : Option Addr) : List V → Hp → VK → Prop := fun xs H Q => ∃ (D : Addr) (b : Bool), xs = [.ref a, .ref D] ∧ (∀ dd, d = some dd → ∃ vs, H dd = some (.xd vs)) ∧ PySem.W.kitOne K (.ref C) (.ref D) = some b ∧ Q (.bl b) H
theorem call_isX (T : XIs X.K C) (hz : Zc (.ref C) d oe) (hf : ∃ vs, oe.data = .fields vs) : CallR (X.suite a ((a, oe) :: pn)) (.builtin "isinstance") (rIsX X.K C a d) := by
  intro pins s σ H xs us Q I r h
  obtain ⟨D, b, rfl, hd, e, q⟩ := h
  cases r with
  | cons rx rr =>
    cases rr with
    | cons rt rr =>
      cases rr
      cases rx
      cases rt
      obtain ⟨od, J⟩ := inst_suite I hz hf hd
      exact PySem.W.kia_one (PySem.W.kitx_exc T.cls T.hga T.hgt T.hsub T.ha T.hn T.htk T.hm) I.kIn J e (fun z => nomatch z) fun tk => ⟨.bl b, H, I.kept (t' := tk) fun _ _ z => z, rfl, q⟩
/-- .. of a tuple of classes -/
def rIsXT (K : PySem.W.Frag) (C a : Addr) (d : Option Addr) (cs : List V) (us : List Value) : List V → Hp → VK → Prop := fun xs H Q => ∃ (tp : Addr) (b : Bool), xs = [.ref a, .ref tp] ∧ H tp = some (.tup cs) ∧ (∀ ws, Vals cs ws → ws = us) ∧ (∀ dd, d = some dd → ∃ vs, H dd = some (.xd vs)) ∧ PySem.W.kitAny K (.ref C) us = some b ∧ Q (.bl b) H
theorem call_isXT {cs : List V} {ws : List Value} (T : XIs X.K C) (hz : Zc (.ref C) d oe) (hf : ∃ vs, oe.data = .fields vs) : CallR (X.suite a ((a, oe) :: pn)) (.builtin "isinstance") (rIsXT X.K C a d cs ws) := by
  intro pins s σ H xs us Q I r h
  obtain ⟨tp, b, rfl, hT, hcs, hd, e, q⟩ := h
  cases r with
  | cons rx rr =>
    cases rr with
    | cons rt rr =>
      cases rr
      cases rx
      cases rt
      obtain ⟨od, J⟩ := inst_suite I hz hf hd
      obtain ⟨_, its, rv, o, h1, h2, n, h3⟩ := (show ObjOk X.prog X.w H s.heap tp (.tup cs) from I.hok tp _ hT)
      have e3 := hcs its rv
      subst e3
      obtain ⟨oc, od', dt, sl⟩ := o
      simp only at h2 h3
      subst h2 h3
      exact PySem.W.kia_tup (PySem.W.kitx_exc T.cls T.hga T.hgt T.hsub T.ha T.hn T.htk T.hm) I.kIn J h1 e (fun z => nomatch z) fun tk => ⟨.bl b, H, I.kept (t' := tk) fun _ _ z => z, rfl, q⟩
end
theorem xok_field {K : PySem.W.Frag} {mg : Str → Option Value} {E : En} {x : Str} {fs : List (Str × PyData)} {C : Addr} {d : Option Addr} {g : Gh} {env : Ev} {c : Nat} {σ : L2.St} {H : Hp} (xok : XOk K mg E.g.F E.H (fun a => ¬ isDk E.g a) x fs (.ref C) d) (r : Rel K E g env c σ H) :
    ∀ dd, d = some dd → ∃ vs, H dd = some (.xd vs) := fun dd e => by
  obtain ⟨C', _, _, h⟩ := xok
  rcases h with ⟨_, h⟩ | ⟨dd', vs, h1, h2, h3, _⟩
  · rw [h] at e
    cases e
  · rw [h1] at e
    cases e
    exact ⟨vs, r.fr _ _ h2 h3⟩
theorem lookup_dp {K : PySem.W.Frag} {F : Hp} {n : Str} {z : PyData} : ∀ {vs : List (Str × V)} {fs : List (Str × PyData)}, vs.map (·.1) = fs.map (·.1) → DpAll K F (vs.map (·.2)) (fs.map (·.2)) → fs.lookup n = some z → ∃ v, vs.lookup n = some v ∧ Dp K F v z
  | [], [], _, _, h => by cases h
  | [], _ :: _, h, _, _ => by cases h
  | _ :: _, [], h, _, _ => by cases h
  | (m, v) :: vs, (m', y) :: fs, h1, h2, h3 => by
    simp only [List.map_cons, List.cons.injEq] at h1
    obtain ⟨rfl, h1⟩ := h1
    cases h2 with
    | cons a t =>
      rw [List.lookup_cons] at h3 ⊢
      cases hq : n == m with
      | true =>
        rw [hq] at h3
        cases h3
        exact ⟨v, rfl, a⟩
      | false =>
        rw [hq] at h3
        exact lookup_dp h1 t h3
section
variable {X : Cx} {E : En} {a C D : Addr} {oe : Obj} {d : Option Addr} {pn : List (Addr × Obj)} {e : Expr} {de : DE} {x cx n : Str} {fs : List (Str × PyData)} {b : Bool} {p p2 pos tpos : Pos} {kk : Nat}
def dIsX (a : Addr) (b : Bool) (de : DE) : DE := fun env c P => de env c fun x c1 => x = .exc a ∧ P (.dat (.bool b)) c1
theorem de_isX (T : XIs X.K C) (hz : Zc (.ref C) d oe) (hf : ∃ vs, oe.data = .fields vs) (xok : XOk X.K X.mg E.g.F E.H (fun a => ¬ isDk E.g a) x fs (.ref C) d) (hk : PySem.W.kitOne X.K (.ref C) (.ref D) = some b) (hm2 : X.mg cx = some (.ref D)) (hm : X.mg "isinstance" = none)
    (he : DPE (X.suite a ((a, oe) :: pn)) E e de) (hg : Gl X "isinstance" := by rfl) (hg2 : Gl X cx := by rfl) (hdb : (cx == ("__debug__" : Str)) = false := by decide)
    (h1 : starEach [e, .Name cx p2] X.env = (false, eval e X.env) :: starEach [.Name cx p2] X.env := by rfl) (h2 : (backTo pos (starEach [.Name cx p2] X.env)).any (·.1) = false := by rfl) :
    DPE (X.suite a ((a, oe) :: pn)) E (.Call (.Name "isinstance" p) [e, .Name cx p2] [] pos) (dIsX a b de) := by
  refine pe_imp (pe_callB (X := X.suite a ((a, oe) :: pn)) (call_isX T hz hf) hg hm PyProof.Rows.boot_isinstance (pa_cons he (pa_cons (pe_glob (v := .ref D) hg2 hm2 rfl hdb) pa_nil) h1) (by decide) (by decide) h1 h2) fun σ H Q h => ?_
  obtain ⟨g, env, c, P, rel, q, k⟩ := h
  refine ⟨g, env, c, _, rel, q, fun y c1 g1 H1 v p1 m1 r1 o1 f1 => ?_⟩
  obtain ⟨rfl, p1⟩ := p1
  obtain rfl : v = .ref a := o1
  exact ⟨D, b, rfl, xok_field xok r1, hk, k _ c1 g1 H1 _ p1 m1 r1 (.bl b) trivial⟩
/-- isinstance(e, (C, D)) -/
theorem de_isXT {D2 : Addr} {cx2 : Str} {p3 : Pos} (T : XIs X.K C) (hz : Zc (.ref C) d oe) (hf : ∃ vs, oe.data = .fields vs) (xok : XOk X.K X.mg E.g.F E.H (fun a => ¬ isDk E.g a) x fs (.ref C) d) (hk : PySem.W.kitAny X.K (.ref C) [.ref D, .ref D2] = some b) (hm2 : X.mg cx = some (.ref D)) (hm3 : X.mg cx2 = some (.ref D2)) (hm : X.mg "isinstance" = none)
    (he : DPE (X.suite a ((a, oe) :: pn)) E e de) (hg : Gl X "isinstance" := by rfl) (hg2 : Gl X cx := by rfl) (hg3 : Gl X cx2 := by rfl) (hdb : (cx == ("__debug__" : Str)) = false := by decide) (hdb2 : (cx2 == ("__debug__" : Str)) = false := by decide)
    (h0 : starEach [.Name cx p2, .Name cx2 p3] X.env = (false, eval (.Name cx p2) X.env) :: starEach [.Name cx2 p3] X.env := by rfl)
    (h1 : starEach [e, .Tuple [.Name cx p2, .Name cx2 p3] kk tpos] X.env = (false, eval e X.env) :: starEach [.Tuple [.Name cx p2, .Name cx2 p3] kk tpos] X.env := by rfl) (h2 : (backTo pos (starEach [.Tuple [.Name cx p2, .Name cx2 p3] kk tpos] X.env)).any (·.1) = false := by rfl) :
    DPE (X.suite a ((a, oe) :: pn)) E (.Call (.Name "isinstance" p) [e, .Tuple [.Name cx p2, .Name cx2 p3] kk tpos] [] pos) (dIsX a b de) := by
  refine pe_imp (pe_callB (X := X.suite a ((a, oe) :: pn)) (call_isXT (cs := [.ref D, .ref D2]) (ws := [.ref D, .ref D2]) T hz hf) hg hm PyProof.Rows.boot_isinstance (pa_cons he (pa_cons (pe_tup (pa_cons (pe_glob (v := .ref D) hg2 hm2 rfl hdb) (pa_cons (pe_glob (v := .ref D2) hg3 hm3 rfl hdb2) pa_nil) h0)) pa_nil) h1) (by decide) (by decide) h1 h2) fun σ H Q h => ?_
  obtain ⟨g, env, c, P, rel, q, k⟩ := h
  refine ⟨g, env, c, _, rel, q, fun y c1 g1 H1 v p1 m1 r1 o1 f1 => ?_⟩
  obtain ⟨rfl, p1⟩ := p1
  obtain rfl : v = .ref a := o1
  refine ⟨by show 2 ≤ sizeLine; decide, fun tp htp => ?_⟩
  obtain ⟨r2, m2⟩ := r1.extra (.tup [.ref D, .ref D2]) htp
  exact ⟨tp, b, rfl, upd_same, fun ws hw => by
    cases hw with
    | cons ra rr =>
      cases rr with
      | cons rb rr =>
        cases rr
        cases ra
        cases rb
        rfl, xok_field xok r2, hk, k _ c1 g1 _ _ p1 (m1.trans m2) r2 (.bl b) trivial⟩
def dXf (a : Addr) (n : Str) (fs : List (Str × PyData)) (de : DE) : DE := fun env c P => de env c fun x c1 => x = .exc a ∧ ∃ z, fs.lookup n = some z ∧ P (.dat z) c1
theorem de_xf (T : XIs X.K C) (hz : Zc (.ref C) d oe) (hf : ∃ vs, oe.data = .fields vs) (xok : XOk X.K X.mg E.g.F E.H (fun a => ¬ isDk E.g a) x fs (.ref C) d) (hno : PySem.W.findIn X.K (.ref C) n = some none) (he : DPE (X.suite a ((a, oe) :: pn)) E e de) (hb : attributeBase e n X.env (eval e X.env) = eval e X.env := by rfl) :
    DPE (X.suite a ((a, oe) :: pn)) E (.Attribute e n pos) (dXf a n fs de) := by
  refine pe_imp (pe_xf T.xf hno hz hf he hb) fun σ H Q h => ?_
  obtain ⟨g, env, c, P, rel, q, k⟩ := h
  refine ⟨g, env, c, _, rel, q, fun y c1 g1 H1 v p1 m1 r1 o1 f1 => ?_⟩
  obtain ⟨rfl, z, hz2, p1⟩ := p1
  obtain rfl : v = .ref a := o1
  obtain ⟨C', _, _, h⟩ := xok
  rcases h with ⟨h, _⟩ | ⟨dd, vs, h1, h2, h3, h4, h5⟩
  · rw [h] at hz2
    cases hz2
  · obtain ⟨u, hu, du⟩ := lookup_dp h4 h5 hz2
    exact ⟨rfl, rfl, dd, vs, u, h1, r1.fr _ _ h2 h3, hu, k _ c1 g1 H1 _ p1 m1 r1 (dp_mono r1.mo du) trivial⟩
end
section
variable {P : Program} {w : World} {K : PySem.W.Frag} {mg : Str → Option Value} {base : Heap}
/-- as def_of: the frame is not the law's own -/
theorem defT_of {x qual : Str} {st : Stmt} {f : Addr} {fd : FuncData} {N ps : List Str} {k n : Nat} {dt : DS} (F : Fun K x qual st f fd) (S : FnScope N ps (defScope st)) (hm : mg x = some (.ref f)) (hb : Binds K fd ps []) (hn : ps.length = n)
    (h : ∀ (cdv : Value) (A : Around) (outer : List Env) (s : Shared) (H : Hp) (E : En), Room k (A.deeper (envOfC qual (defScope st) s.heap.objs.size f cdv)) → (A.deeper (envOfC qual (defScope st) s.heap.objs.size f cdv)).guards = some [] → E.top = false →
      DPSs (bodyCx P w K mg base N qual st f cdv A outer s H) E (defBody st) dt) : Def P w K mg base (k + 1) x n (bodySpec N.length dt) := by
  refine ⟨f, fd, ps, fnG_of F S (fun vs H Q E q => ?_) (fun cdv A outer s H vs Q hr hgd q => ?_), hm, F.kp, hb⟩
  · obtain ⟨g, c, args, P, _, _, ok, _, hl, _⟩ := q
    rw [VOks.len ok, hl, hn]
  · obtain ⟨g, c, args, P', ex, dk, ok, fr, hl, hs, kk⟩ := q
    refine ⟨_, h cdv A outer s H ⟨g, H, false⟩ hr hgd rfl, g, _, c, _, start_rel ex dk ok fr, hs, fun env' c' g' σ' H' p m r => ?_, fun y c' env' g' σ' H' v p m r o f => ?_, fun _ _ _ _ _ p => p.elim, fun _ _ _ _ _ p => p.elim⟩
    · exact kk _ c' g' H' .non p ⟨⟨r.mo, r.md rfl⟩, r.fr, fun a o e => r.old e, r.nf⟩ r.ex r.dk .non trivial
    · exact kk y c' g' H' v p ⟨⟨r.mo, r.md rfl⟩, r.fr, fun a o e => r.old e, r.nf⟩ r.ex r.dk o f
end
end DL
set_option maxHeartbeats 2000000
/-! defs with one star parameter that raise -/
namespace DL
open PySem PySem.Spec PyProof.Rows L2
theorem tkF {X : Cx} {mg : Str → Option Value} {E : En} : Takes X (upW X.K mg E fun _ _ _ _ => False) := takes0.imp fun _ _ _ _ h => by
  obtain ⟨_, _, _, _, _, _, _, z⟩ := h
  exact z
structure FnVX (P : Program) (w : World) (K : PySem.W.Frag) (mg : Str → Option Value) (base : Heap) (k : Nat) (f : Addr) (sp : Sp) : Prop where
  run : ∀ (A : Around) (outer : List Env) (s : Shared) (H : Hp) (us : List Value) (vs : List V) (Q : VK) (E : XK), Room k A → A.guards = some [] → Env0 P w K mg base A outer s H → Vals vs us → sp vs H Q E →
    codeAny (model P w) A (.call (.ref f) ⟨us, []⟩) (CR (L2.CX P w) outer P w H s Q E) s
section
variable {P : Program} {w : World} {K : PySem.W.Frag} {mg : Str → Option Value} {base : Heap}
theorem fnVX_star {x qual : Str} {st : Stmt} {f : Addr} {fd : FuncData} {N : List Str} {pv : Str} {k : Nat} {sp : Sp} (F : Fun K x qual st f fd) (S : FnScope N [pv] (defScope st))
    (hbd : ∀ rest : List Value, bindArgs fd ⟨rest, []⟩ = (newTuple rest >>= fun t => pure [(pv, t)]))
    (hb : ∀ (cdv : Value) (A : Around) (outer : List Env) (s : Shared) (H : Hp) (vs : List V) (Q : VK) (E : XK), Room k (A.deeper (envOfC qual (defScope st) s.heap.objs.size f cdv)) → A.guards = some [] → sp vs H Q E →
      ∃ t, PSs (cxOf (L2.CX P w) P w K mg base N qual (defScope st) f cdv A outer s H E) (defBody st) t ∧ t { nx := fun _ H' => Q .non H', rt := Q } (start N vs) H) :
    FnVX P w K mg base (k + 1) f (fun vs H Q E => vs.length ≤ sizeLine ∧ ∀ p, H p = Option.none → sp [V.ref p] (upd H p (.tup vs)) Q E) := by
  obtain ⟨oc, od, kV, doc, pm, an, cdv, ct, osl, rfl, lk, hcd⟩ := F.ex
  refine ⟨fun A outer s H us vs Q E room quiet e0 r want => ?_⟩
  obtain ⟨hz, hq⟩ := want
  have hn : H s.heap.objs.size = Option.none := e0.hok.fresh (Nat.le_refl _)
  have hl2 : us.length ≤ sizeLine := by rw [← r.length]; exact hz
  refine StX.run_bnd lk hcd S room e0 (G := fun xs H2 => ∃ p, H p = Option.none ∧ xs = [V.ref p] ∧ H2 = upd H p (.tup vs)) (fun A' Ex Q' h => ?_) fun s2 H2 xs ⟨p, hp, ex, eH⟩ hr' => ?_
  · rw [hbd us]
    refine wpAny_bind (wpAny_newTuple (wpAny_pure ?_) hl2)
    have new : ObjOk P w (upd H s.heap.objs.size (.tup vs)) (s.heap.push ({ cls := .type "tuple", data := .seq us.toArray } : Obj)) s.heap.objs.size (.tup vs) := ⟨hz, us, r, ⟨_, Heap.get?_push_size _ rfl, rfl, _, rfl⟩⟩
    have un := StX.un_laid (fs := frs outer) (s := s) (o := ({ cls := .type "tuple", data := .seq us.toArray } : Obj)) (u := .tup vs) hn
    exact h _ _ [V.ref s.heap.objs.size] [Value.ref s.heap.objs.size] (StX.env0_laid e0 new) un rfl (fun e s' => StX.cxUp outer s H _ _ E e s' un (fun b o q => Heap.get?_push_of_some _ q) rfl) (.cons rfl .nil) rfl ⟨_, hn, rfl, rfl⟩
  · subst ex eH
    exact hb cdv A outer s2 _ _ Q E hr' quiet (hq p hp)
end
section
variable {X : Cx} {k : Nat} {f : Addr} {sp : Sp} {x : Str} {p pos : Pos} {e : Expr} {es : List Expr} {t : TA} {W : WX}
theorem pe_callVX (F : FnVX X.prog X.w X.K X.mg X.base k f sp) (hr : Room k X.A) (hgd : X.A.guards = some []) (tk : Takes X W) (hg : Gl X x) (hm : X.mg x = some (.ref f)) (hk : PySem.W.keepIn X.K (.ref f) = true) (ha : PA X (e :: es) t)
    (hdb : (x == ("__debug__" : Str)) = false := by decide) (he : starEach (e :: es) X.env = (false, eval e X.env) :: starEach es X.env := by rfl) (hpl : (backTo pos (starEach es X.env)).any (·.1) = false := by rfl) :
    PE X (.Call (.Name x p) (e :: es) [] pos) (fun σ H Q => t σ H fun vs H1 => sp vs H1 Q (fun cls d H2 => W cls d σ H2)) := by
  constructor
  intro pins s σ H Q I h
  refine wpAny_Call_Name_kw (ld_glob I hg hm (PySem.W.callWith_K (h₀ := X.base) I.ok.mod.kin hk ?_ he hpl) hdb)
  refine thn (ha.run pos pins s σ H _ I h) fun us s1 hq => ?_
  obtain ⟨vs, H1, I1, r, q⟩ := hq
  refine ⟨I1.kIn, wpAny_call (codeAny_mono (F.run X.A X.stack s1 H1 us vs Q _ hr hgd I1.env0 r q) fun rr s' hrr => ?_)⟩
  match rr, hrr with
  | .error e', z => exact L2.passAt tk σ pins H1 s1 e' s' I1 z
  | .ok .next, z => exact z.elim
  | .ok .brk, z => exact z.elim
  | .ok .cont, z => exact z.elim
  | .ok (.ret u), z => exact I1.after z
end
def spVX (K : PySem.W.Frag) (mg : Str → Option Value) (spec : SpecX) : Sp := fun vs H Q E => ∃ g c ds P Px, Same g.F H ∧ DeckOk g H c ∧ DpAll K g.F vs ds ∧ ds.length ≤ sizeLine ∧ spec [.dat (.tuple ds)] c P Px ∧
  (∀ x c' g' H' v, P x c' → Mv g H g' H' → Same g'.F H' → DeckOk g' H' c' → VOk K g' H' v x → free x → Q v H') ∧
  ∀ x fs c' g' H' cls d, Px x fs c' → Mv g H g' H' → Same g'.F H' → DeckOk g' H' c' → XOk K mg g'.F H' (fun a => ¬ isDk g' a) x fs cls d → E cls d H'
structure DefVX (P : Program) (w : World) (K : PySem.W.Frag) (mg : Str → Option Value) (base : Heap) (k : Nat) (x : Str) (spec : SpecX) : Prop where
  ex : ∃ f, FnVX P w K mg base k f (spVX K mg spec) ∧ mg x = some (.ref f) ∧ PySem.W.keepIn K (.ref f) = true
section
variable {X : Cx} {E : En} {k : Nat} {spec : SpecX} {x : Str} {p pos : Pos} {e : Expr} {es : List Expr} {dr : DA} {W : XW}
def dCallVX (spec : SpecX) (W : XW) (dr : DA) : DE := fun env c P => dr env c fun xs c1 => datsK xs fun ds => ds.length ≤ sizeLine ∧ spec [.dat (.tuple ds)] c1 P fun y fs c2 => W y fs env c2
theorem de_callVX (F : DefVX X.prog X.w X.K X.mg X.base k x spec) (hr : Room k X.A) (hgd : X.A.guards = some []) (tk : Takes X (upW X.K X.mg E W)) (ha : DPA X E (e :: es) dr) (hg : Gl X x := by rfl)
    (hdb : (x == ("__debug__" : Str)) = false := by decide) (he : starEach (e :: es) X.env = (false, eval e X.env) :: starEach es X.env := by rfl) (hpl : (backTo pos (starEach es X.env)).any (·.1) = false := by rfl) :
    DPE X E (.Call (.Name x p) (e :: es) [] pos) (dCallVX spec W dr) := by
  obtain ⟨f, F, hm, hk⟩ := F.ex
  refine pe_imp (pe_callVX F hr hgd tk hg hm hk ha hdb he hpl) fun σ H Q h => ?_
  obtain ⟨g, env, c, P, rel, q, kk⟩ := h
  refine ⟨g, env, c, _, rel, q, fun xs c1 g1 H1 vs p1 m1 r1 o1 f1 => ?_⟩
  obtain ⟨ds, h1, h2⟩ := datsK_all o1 p1
  exact ⟨g1, c1, ds, P, _, r1.ex, r1.dk, h2, h1.1, h1.2, fun y c2 g2 H2 v p2 m2 ex dk ok fr => kk y c2 g2 H2 v p2 (m1.trans m2) (r1.call m2 ex dk) ok fr,
    fun y fs c2 g2 H2 cls d p2 m2 ex dk xok => ⟨g2, env, c2, y, fs, r1.call m2 ex dk, xok, p2⟩⟩
end
section
variable {P : Program} {w : World} {K : PySem.W.Frag} {mg : Str → Option Value} {base : Heap}
theorem defVX_of {x qual : Str} {st : Stmt} {f : Addr} {fd : FuncData} {N : List Str} {pv : Str} {k : Nat} {dt : Xd → DS} (F : Fun K x qual st f fd) (S : FnScope N [pv] (defScope st)) (hm : mg x = some (.ref f))
    (hbd : ∀ rest : List Value, bindArgs fd ⟨rest, []⟩ = (newTuple rest >>= fun t => pure [(pv, t)]))
    (h : ∀ (cdv : Value) (A : Around) (outer : List Env) (s : Shared) (H : Hp) (EX : XK) (E : En) (Px : Xd), Room k (A.deeper (envOfC qual (defScope st) s.heap.objs.size f cdv)) → (A.deeper (envOfC qual (defScope st) s.heap.objs.size f cdv)).guards = some [] →
      Takes (bodyCxX P w K mg base N qual st f cdv A outer s H EX) (upW K mg E fun y fs _ c => Px y fs c) → DPSs (bodyCxX P w K mg base N qual st f cdv A outer s H EX) E (defBody st) (dt Px)) : DefVX P w K mg base (k + 1) x (bodySpecX N.length dt) := by
  have FV := fnVX_star (P := P) (w := w) (mg := mg) (base := base) (sp := spDX K mg 1 (bodySpecX N.length dt)) F S hbd (fun cdv A outer s H vs Q EX hr hgd q => by
    obtain ⟨g, c, args, P', Px, ex, dk, ok, fr, hl, hs, kk, kx⟩ := q
    have tk : Takes (bodyCxX P w K mg base N qual st f cdv A outer s H EX) (fun cls d _ H => EX cls d H) := takes_of rfl rfl rfl rfl
    refine ⟨_, h cdv A outer s H EX ⟨g, H, false⟩ Px hr hgd (tk.imp fun cls d σ H2 z => ?_), g, _, c, _, start_rel ex dk ok fr, hs, fun env' c' g' σ' H' p m r => ?_, fun y c' env' g' σ' H' v p m r o f => ?_, fun _ _ _ _ _ p => p.elim, fun _ _ _ _ _ p => p.elim⟩
    · obtain ⟨g2, env2, c2, y, fs, r, xok, px⟩ := z
      exact kx y fs c2 g2 H2 cls d px ⟨⟨r.mo, r.md rfl⟩, r.fr, fun a o e => r.old e, r.nf⟩ r.ex r.dk xok
    · exact kk _ c' g' H' .non p ⟨⟨r.mo, r.md rfl⟩, r.fr, fun a o e => r.old e, r.nf⟩ r.ex r.dk .non trivial
    · exact kk y c' g' H' v p ⟨⟨r.mo, r.md rfl⟩, r.fr, fun a o e => r.old e, r.nf⟩ r.ex r.dk o f)
  refine ⟨f, ⟨fun A outer s H us vs Q E room quiet e0 r want => FV.run A outer s H us vs Q E room quiet e0 r ?_⟩, hm, F.kp⟩
  obtain ⟨g, c, ds, P', Px, ex, dk, ok, hl, hs, kk, kx⟩ := want
  refine ⟨by rw [DpAll.len ok]; exact hl, fun p hp => ?_⟩
  have r0 : Rel K ⟨g, H, false⟩ g (startE ([] : List Str).length []) c (start [] []) H := start_rel (vs := []) (args := []) ex dk trivial (fun x hx => by cases hx)
  obtain ⟨r1, m1⟩ := r0.new (.tup vs) hp
  refine ⟨_, c, [.dat (.tuple ds)], P', Px, r1.ex, r1.dk, ⟨.tup (.of upd_same) (dpAll_mono m1.f ok), trivial⟩, fun x hx => ?_, rfl, hs, fun y c2 g2 H2 v p2 m2 ex dk ok fr => kk y c2 g2 H2 v p2 (m1.trans m2) ex dk ok fr, fun y fs c2 g2 H2 cls d p2 m2 ex dk xok => kx y fs c2 g2 H2 cls d p2 (m1.trans m2) ex dk xok⟩
  cases List.mem_singleton.mp hx
  trivial
end
/-- in the body of a def that raises: what a loop's own exceptions may do -/
theorem passesX {P : Program} {w : World} {K : PySem.W.Frag} {mg : Str → Option Value} {base : Heap} {N : List Str} {qual : Str} {st : Stmt} {f : Addr} {cdv : Value} {A : Around} {outer : List Env} {s : Shared} {H : Hp} {E : XK} :
    PassesOwn (model P w) (bodyCxX P w K mg base N qual st f cdv A outer s H E).A (bodyCxX P w K mg base N qual st f cdv A outer s H E).env (bodyCxX P w K mg base N qual st f cdv A outer s H E).xe := passes_of (X := bodyCxX P w K mg base N qual st f cdv A outer s H E) rfl
end DL
set_option maxHeartbeats 2000000
/-! a, x = e, [..] -/
namespace DL
open PySem PySem.Spec PyProof.Rows L2
def sParEF (i j : Nat) (da : DE) (dt : DF) : DS := fun D env c => da env c fun y c1 => dt env c1 fun l c2 => D.nx ((env.set i (some y)).set j (some (.own l))) c2
section
variable {X : Cx} {E : En} {a b : Expr} {da : DE} {pos px py pt : Pos} {kt : Nat} {k2 : Nat} {pt2 : Pos} {x y : Str}
theorem ds_parEF (i j : Nat) {dt : DF} (hN : X.N.Nodup) (h : DPE X E a da) (hb : DPF X E b dt) (hij : i ≠ j := by decide) (hi : X.N[i]? = some x := by rfl) (hj : X.N[j]? = some y := by rfl)
    (hx : X.env.scope.names.lookup x = some .local := by rfl) (hy : X.env.scope.names.lookup y = some .local := by rfl) (hc : X.calm = true := by rfl)
    (hw : swappedStores [.Tuple [.Name x px, .Name y py] kt pt] (.Tuple [a, b] k2 pt2) X.env = pure (some [x, y]) := by rfl)
    (hs : swapsWithSole [.Tuple [.Name x px, .Name y py] kt pt] (.Tuple [a, b] k2 pt2) pos.line X.env = pure false := by rfl)
    (he : starEach [a, b] X.env = (false, eval a X.env) :: starEach [b] X.env := by rfl) (he2 : starEach [b] X.env = (false, eval b X.env) :: starEach [] X.env := by rfl) : DPS X E (.Assign [.Tuple [.Name x px, .Name y py] kt pt] (.Tuple [a, b] k2 pt2) pos) (sParEF i j da dt) := by
  refine ps_imp (ps_par hc hN hi hj hij hx hy (pa_cons h (pa_cons hb pa_nil he2) he) hw hs) fun D σ H h => ?_
  obtain ⟨g, env, c, P, rel, q, k, _⟩ := h
  refine ⟨g, env, c, _, rel, q, fun y c1 g1 H1 v p1 m1 r1 o1 f1 => ⟨g1, env, c1, _, r1, p1, fun l c2 g2 H2 p xs hl m2 r2 hp hp' hF ha => ⟨v, .ref p, rfl, ?_⟩⟩⟩
  refine k _ c2 g2 _ H2 hl (m1.f.trans m2.f) ?_
  rw [List.set_comm _ _ hij, List.set_comm _ _ hij]
  exact (r2.takeOwn j (Frs.of r1 m2 hp hp' hF ha)).set i (VOk.mono m2.toMo f1 o1) f1
theorem ds_parEFc (i j : Nat) {dt : DF} (hN : X.N.Nodup) (h : DPE X E a da) (hb : DPF X E b dt) (hij : i ≠ j := by decide) (hi : X.N[i]? = some x := by rfl) (hj : X.N[j]? = some y := by rfl)
    (hx : Loc X.env.scope x := by first | exact Or.inl rfl | exact Or.inr rfl) (hy : Loc X.env.scope y := by first | exact Or.inl rfl | exact Or.inr rfl) (hc : X.calm = true := by rfl)
    (hg : PG X (.Tuple [.Name x px, .Name y py] kt pt) (gTup X.K 2 (gCons (gName i) (gCons (gName j) gNil))) := by exact pg_tup rfl (pgs_cons (pg_name (by assumption) rfl (by first | exact Or.inl rfl | exact Or.inr rfl)) (pgs_cons (pg_name (by assumption) rfl (by first | exact Or.inl rfl | exact Or.inr rfl)) pgs_nil)))
    (hs : swapsWithSole [.Tuple [.Name x px, .Name y py] kt pt] (.Tuple [a, b] k2 pt2) pos.line X.env = pure false := by rfl) (hw : swappedStores [.Tuple [.Name x px, .Name y py] kt pt] (.Tuple [a, b] k2 pt2) X.env = pure none := by rfl)
    (h3 : (assignEach [.Tuple [.Name x px, .Name y py] kt pt] X.env).map (·.2) = [assign (.Tuple [.Name x px, .Name y py] kt pt) X.env] := by rfl)
    (he : starEach [a, b] X.env = (false, eval a X.env) :: starEach [b] X.env := by rfl) (he2 : starEach [b] X.env = (false, eval b X.env) :: starEach [] X.env := by rfl) : DPS X E (.Assign [.Tuple [.Name x px, .Name y py] kt pt] (.Tuple [a, b] k2 pt2) pos) (sParEF i j da dt) := by
  refine ps_imp (ps_asg (pe_tup (pa_cons h (pa_cons hb pa_nil he2) he)) hg hs hw h3) fun D σ H h => ?_
  obtain ⟨g, env, c, P, rel, q, k, _⟩ := h
  refine ⟨g, env, c, _, rel, q, fun y c1 g1 H1 v p1 m1 r1 o1 f1 => ⟨g1, env, c1, _, r1, p1, fun l c2 g2 H2 p xs hl m2 r2 hp hp' hF ha => ?_⟩⟩
  refine ⟨by show 2 ≤ sizeLine; decide, fun T hT => ⟨T, _, rfl, .of upd_same, rfl, v, _, rfl, .ref p, _, rfl, rfl, ?_⟩⟩
  obtain ⟨r3, m3⟩ := r2.skip (.tup [v, .ref p]) hT
  refine k _ c2 g2 _ _ hl (m1.f.trans m2.f) ?_
  rw [List.set_comm _ _ hij, List.set_comm _ _ hij]
  exact (r3.takeOwn j ((Frs.of r1 m2 hp hp' hF ha).mv m3)).set i (VOk.mono (m2.trans m3).toMo f1 o1) f1
end
/-! ### enumerate of a list -/
def wEnumerateL (da : DA) : DI := fun env c P => da env c fun xs c1 => datsK xs fun ds => match ds with
  | [.list xs] => P (enumD xs) c1
  | _ => False
section
variable {X : Cx} {E : En} {a : Expr} {pos : Pos}
theorem dw_enumerateL {elts : List Expr} {kk : Nat} {dr : DA} {p tpos : Pos} (ha : DPA X E [a] dr) (hm : X.mg "enumerate" = none) (hg : Gl X "enumerate" := by rfl) (hs : starEach [a] X.env = [(false, eval a X.env)] := by rfl) :
    DPI X E (.Tuple elts kk tpos) (.Call (.Name "enumerate" p) [a] [] pos) (wEnumerateL dr) := by
  refine pi_imp (pi_enum hg hm ha hs) fun σ H R h => ?_
  obtain ⟨g, env, c, P, rel, q, k⟩ := h
  refine ⟨g, env, c, _, rel, q, fun xs c1 g1 H1 vs p1 m1 r1 o1 f1 => ?_⟩
  obtain ⟨ds, h1, h2⟩ := datsK_all o1 p1
  split at h1
  · rename_i us
    cases h2 with
    | cons h3 t =>
      cases t
      cases h3 with
      | lst s1 a1 =>
        rename_i ad xs
        refine ⟨ad, xs, rfl, r1.ex.seq s1, k _ c1 g1 H1 _ h1 m1 r1 ⟨_, _, by rw [show (enumD us).length = xs.length by unfold enumD; rw [List.length_map, List.length_range, DpAll.len a1]]; exact walk_enum, fun g' H' m e => e.seq (m.seq s1), fun i H2 x2 H3 d2 e y => ?_⟩⟩
        obtain ⟨T, x, y, rfl, hT, rfl, hx, hy⟩ := y
        cases hx
        obtain ⟨dy, ey, py⟩ := DpAll.getV a1 hy
        have hi : i < us.length := (List.getElem?_eq_some_iff.mp ey).1
        have e2 : d2 = .tuple [.int (i : Nat), dy] := by
          unfold enumD at e
          rw [List.getElem?_map, List.getElem?_range hi, Option.map_some, List.getD_eq_getElem?_getD, ey] at e
          exact (Option.some.inj e).symm
        subst e2
        refine .inr ⟨T, _, hT, rfl, fun F hF hFT => .tup (.of upd_same) ?_⟩
        have sF : Same F (upd F T (.tup [.int (i : Nat), y])) := fun b o e => by
          rw [upd_ne (ne_of_none e hFT)]
          exact e
        exact .cons (.int _) (.cons (dp_mono (hF.trans sF) py) .nil)
  · exact h1.elim
end
end DL
set_option maxHeartbeats 2000000
namespace DL
open PySem PySem.Spec PyProof.Rows L2
theorem kit_ty' {K : PySem.W.Frag} {C : Addr} {T : String} {b : Bool} (hm : PySem.W.kitMeta T = true) (hs : PySem.W.subIn K (.ref C) (.type T) = some b) : PySem.W.kitOne K (.ref C) (.type T) = some b := by
  unfold PySem.W.kitOne
  rw [if_neg (by intro h; cases (beq_iff_eq.mp h))]
  show (if PySem.W.kitMeta T = true then PySem.W.subIn K (.ref C) (.type T) else none) = some b
  rw [if_pos hm]
  exact hs
section
variable {X : Cx} {E : En} {a C D : Addr} {oe : Obj} {d : Option Addr} {pn : List (Addr × Obj)} {e : Expr} {de : DE} {x cx n : Str} {fs : List (Str × PyData)} {b : Bool} {p p2 pos tpos : Pos} {kk : Nat}
/-- isinstance(e, (C, T)), T built in -/
theorem de_isXTb {T2 : String} {cx2 : Str} {p3 : Pos} (T : XIs X.K C) (hz : Zc (.ref C) d oe) (hf : ∃ vs, oe.data = .fields vs) (xok : XOk X.K X.mg E.g.F E.H (fun a => ¬ isDk E.g a) x fs (.ref C) d) (hk : PySem.W.kitAny X.K (.ref C) [.ref D, .type T2] = some b) (hm2 : X.mg cx = some (.ref D)) (hm3 : X.mg cx2 = none) (hv : bootBuiltins cx2 = some (.type T2)) (hm : X.mg "isinstance" = none)
    (he : DPE (X.suite a ((a, oe) :: pn)) E e de) (hg : Gl X "isinstance" := by rfl) (hg2 : Gl X cx := by rfl) (hg3 : Gl X cx2 := by rfl) (hdb : (cx == ("__debug__" : Str)) = false := by decide) (hdb2 : (cx2 == ("__debug__" : Str)) = false := by decide) (hnn : cx2 ≠ "__name__" := by decide)
    (h0 : starEach [.Name cx p2, .Name cx2 p3] X.env = (false, eval (.Name cx p2) X.env) :: starEach [.Name cx2 p3] X.env := by rfl)
    (h1 : starEach [e, .Tuple [.Name cx p2, .Name cx2 p3] kk tpos] X.env = (false, eval e X.env) :: starEach [.Tuple [.Name cx p2, .Name cx2 p3] kk tpos] X.env := by rfl) (h2 : (backTo pos (starEach [.Tuple [.Name cx p2, .Name cx2 p3] kk tpos] X.env)).any (·.1) = false := by rfl) :
    DPE (X.suite a ((a, oe) :: pn)) E (.Call (.Name "isinstance" p) [e, .Tuple [.Name cx p2, .Name cx2 p3] kk tpos] [] pos) (dIsX a b de) := by
  refine pe_imp (pe_callB (X := X.suite a ((a, oe) :: pn)) (call_isXT (cs := [.ref D, .ty T2]) (ws := [.ref D, .type T2]) T hz hf) hg hm PyProof.Rows.boot_isinstance (pa_cons he (pa_cons (pe_tup (pa_cons (pe_glob (v := .ref D) hg2 hm2 rfl hdb) (pa_cons (pe_bltn (v := .ty T2) hg3 hm3 hv rfl hnn hdb2) pa_nil) h0)) pa_nil) h1) (by decide) (by decide) h1 h2) fun σ H Q h => ?_
  obtain ⟨g, env, c, P, rel, q, k⟩ := h
  refine ⟨g, env, c, _, rel, q, fun y c1 g1 H1 v p1 m1 r1 o1 f1 => ?_⟩
  obtain ⟨rfl, p1⟩ := p1
  obtain rfl : v = .ref a := o1
  refine ⟨by show 2 ≤ sizeLine; decide, fun tp htp => ?_⟩
  obtain ⟨r2, m2⟩ := r1.extra (.tup [.ref D, .ty T2]) htp
  exact ⟨tp, b, rfl, upd_same, fun ws hw => by
    cases hw with
    | cons ra rr =>
      cases rr with
      | cons rb rr =>
        cases rr
        cases ra
        cases rb
        rfl, xok_field xok r2, hk, k _ c1 g1 _ _ p1 (m1.trans m2) r2 (.bl b) trivial⟩
end
/-! ### three names at once -/
def sPar3 (i j l : Nat) (da : DA) : DS := fun D env c => da env c fun xs c1 => match xs with
  | [x, y, z] => D.nx (((env.set i (some x)).set j (some y)).set l (some z)) c1
  | _ => False
theorem ds_par3 {X : Cx} {E : En} (i j l : Nat) {x y z : Str} {a b c : Expr} {dr : DA} {px py pz pt pos : Pos} {kt k2 pt2} (hN : X.N.Nodup) (ha : DPA X E [a, b, c] dr) (hij : i ≠ j := by decide) (hil : i ≠ l := by decide) (hjl : j ≠ l := by decide) (hi : X.N[i]? = some x := by rfl) (hj : X.N[j]? = some y := by rfl) (hl : X.N[l]? = some z := by rfl)
    (hx : X.env.scope.names.lookup x = some .local := by rfl) (hy : X.env.scope.names.lookup y = some .local := by rfl) (hz : X.env.scope.names.lookup z = some .local := by rfl) (hc : X.calm = true := by rfl)
    (hw : swappedStores [.Tuple [.Name x px, .Name y py, .Name z pz] kt pt] (.Tuple [a, b, c] k2 pt2) X.env = pure (some [x, y, z]) := by rfl)
    (hs : swapsWithSole [.Tuple [.Name x px, .Name y py, .Name z pz] kt pt] (.Tuple [a, b, c] k2 pt2) pos.line X.env = pure false := by rfl) : DPS X E (.Assign [.Tuple [.Name x px, .Name y py, .Name z pz] kt pt] (.Tuple [a, b, c] k2 pt2) pos) (sPar3 i j l dr) := by
  refine ps_imp (ps_par3 hc hN hi hj hl hij hil hjl hx hy hz ha hw hs) fun D σ H h => ?_
  obtain ⟨g, env, c, P, rel, q, k, _⟩ := h
  refine ⟨g, env, c, _, rel, q, fun xs c1 g1 H1 vs p1 m1 r1 o1 f1 => ?_⟩
  split at p1
  · rename_i x y z
    match vs, o1 with
    | [u, v, w], o1 =>
      refine ⟨u, v, w, rfl, k _ c1 g1 _ H1 p1 m1.f (((r1.set i o1.1 (f1 x (by simp))).set j o1.2.1 (f1 y (by simp))).set l o1.2.2.1 (f1 z (by simp)))⟩
  · exact p1.elim
end DL
set_option maxHeartbeats 2000000
/-! texts: str(i), a + b, " ".join(..), f".."; defs that call themselves -/
namespace DL
open PySem PySem.Spec PyProof.Rows L2
def isStr : PyData → Bool
  | .str _ => true
  | _ => false
theorem kit_str : ∀ d : PyData, kitB (tyN d) "str" = some (isStr d)
  | .none => (by decide +kernel : kitB "NoneType" "str" = some false)
  | .bool _ => (by decide +kernel : kitB "bool" "str" = some false)
  | .int _ => (by decide +kernel : kitB "int" "str" = some false)
  | .str _ => (by decide +kernel : kitB "str" "str" = some true)
  | .list _ => (by decide +kernel : kitB "list" "str" = some false)
  | .tuple _ => (by decide +kernel : kitB "tuple" "str" = some false)
  | .dict _ => (by decide +kernel : kitB "dict" "str" = some false)
def rdStr : List PyData → (PyData → Prop) → Prop := fun ds P => match ds with
  | [.int i] => i.natAbs.log2 < 1920 ∧ P (.str (toString i))
  | _ => False
theorem cd_str {K : PySem.W.Frag} : CallD K (fun xs H Q => ∃ i, xs = [V.int i] ∧ i.natAbs.log2 < 1920 ∧ Q (.str (toString i)) H) rdStr := by
  intro E g env c σ H xs ds P Q r h q k
  unfold rdStr at q
  split at q
  · cases h with
    | cons h1 t =>
      cases t
      rw [dp_int h1]
      exact ⟨_, rfl, q.1, k _ g H _ q.2 (Mv.refl g H) r (.str _)⟩
  · exact q.elim
/-- a + b, of texts -/
def rdAddS : PyData → PyData → (PyData → Prop) → Prop := fun d e P => match d, e with
  | .str x, .str y => x.length + y.length ≤ sizeLine ∧ P (.str (x ++ y))
  | _, _ => False
theorem opd_addS {K : PySem.W.Frag} : OpD K (fun x y H Q => ∃ i j, x = V.str i ∧ y = V.str j ∧ i.length + j.length ≤ sizeLine ∧ Q (.str (i ++ j)) H) rdAddS := by
  intro E g env c σ H x y d e P Q r hx hy q k
  unfold rdAddS at q
  split at q
  · rw [dp_str hx, dp_str hy]
    exact ⟨_, _, rfl, rfl, q.1, k _ g H _ q.2 (Mv.refl g H) r (.str _)⟩
  · exact q.elim
section
variable {X : Cx} {E : En} {a b : Expr} {da db : DE} {pos apos : Pos}
theorem de_addS (ha : DPE X E a da) (hb : DPE X E b db) : DPE X E (.BinOp a .Add b pos) (dOp rdAddS da db) := de_op op_add_str opd_addS ha hb
/-- sep.join(xs) -/
def strsOf : List PyData → Option (List Str)
  | [] => some []
  | .str x :: r => (strsOf r).map (x :: ·)
  | _ :: _ => none
theorem strsOf_dp {K : PySem.W.Frag} {F : Hp} : ∀ {ds : List PyData} {vs : List V} {ys : List Str}, strsOf ds = some ys → DpAll K F vs ds → vs = ys.map V.str
  | [], _, _, e, .nil => by cases e; rfl
  | .str x :: r, _, ys, e, .cons h t => by
    unfold strsOf at e
    obtain ⟨zs, e1, rfl⟩ := Option.map_eq_some_iff.mp e
    rw [dp_str h, strsOf_dp e1 t]
    rfl
  | .none :: _, _, _, e, _ => by cases e
  | .bool _ :: _, _, _, e, _ => by cases e
  | .int _ :: _, _, _, e, _ => by cases e
  | .list _ :: _, _, _, e, _ => by cases e
  | .tuple _ :: _, _, _, e, _ => by cases e
  | .dict _ :: _, _, _, e, _ => by cases e
def dJoin (da db : DE) : DE := fun env c P => da env c fun x c1 => datK x fun d => match d with
  | .str s => db env c1 fun y c2 => datK y fun e => match e with
    | .list ds => ∃ ys, strsOf ds = some ys ∧ (ys.map (·.length)).sum + ys.length * s.length ≤ 16777216 ∧ P (.dat (.str (Txt.join s ys))) c2
    | _ => False
  | _ => False
end
/-! ### a def that calls itself: a spec for each depth -/
section
variable {P : Program} {w : World} {K : PySem.W.Frag} {mg : Str → Option Value} {base : Heap}
def recSpec (N : Nat) (dt : Spec → DS) : Nat → Spec
  | 0 => fun _ _ _ => False
  | d + 1 => bodySpec N (dt (recSpec N dt d))
theorem defR_of {x qual : Str} {st : Stmt} {f : Addr} {fd : FuncData} {N ps : List Str} {k n : Nat} {dt : Spec → DS} (F : Fun K x qual st f fd) (S : FnScope N ps (defScope st)) (hm : mg x = some (.ref f)) (hb : Binds K fd ps []) (hn : ps.length = n)
    (h : ∀ (d : Nat) (sp : Spec), Def P w K mg base (k + d) x n sp → ∀ (cdv : Value) (A : Around) (outer : List Env) (s : Shared) (H : Hp) (E : En), Room (k + d) (A.deeper (envOfC qual (defScope st) s.heap.objs.size f cdv)) → (A.deeper (envOfC qual (defScope st) s.heap.objs.size f cdv)).guards = some [] →
      DPSs (bodyCx P w K mg base N qual st f cdv A outer s H) E (defBody st) (dt sp)) : ∀ d, Def P w K mg base (k + d) x n (recSpec N.length dt d)
  | 0 => ⟨f, fd, ps, ⟨fun vs H Q E q => by
      obtain ⟨g, c, args, P, _, _, ok, _, hl, _⟩ := q
      rw [VOks.len ok, hl, hn], fun A outer s H us vs Q _ _ _ _ _ q => by
      obtain ⟨g, c, args, P, _, _, ok, _, hl, z, _⟩ := q
      exact z.elim⟩, hm, F.kp, hb⟩
  | d + 1 => def_of (N := N) (k := k + d) F S hm hb hn (h d _ (defR_of F S hm hb hn h d))
end
end DL
set_option maxHeartbeats 2000000
namespace DL
open PySem PySem.Spec PyProof.Rows L2
/-! ### x == (), x != (), whatever the tuple x holds -/
def rEqNilT (K : PySem.W.Frag) : R2 := fun x y H Q => ∃ a b xs, x = .ref a ∧ y = .ref b ∧ SqT K H a xs ∧ SqT K H b [] ∧ Q (.bl xs.isEmpty) H
def rNeNilT (K : PySem.W.Frag) : R2 := fun x y H Q => ∃ a b xs, x = .ref a ∧ y = .ref b ∧ SqT K H a xs ∧ SqT K H b [] ∧ Q (.bl (!xs.isEmpty)) H
section
variable {X : Cx}
theorem nilT_key {us : List Value} {xs : List V} (hl : xs.length = us.length) : ((List.range (min us.toArray.size ([] : List Value).toArray.size)).all (fun _ => true) && us.toArray.size == ([] : List Value).toArray.size) = xs.isEmpty := by
  cases xs with
  | nil =>
    cases us with
    | nil => rfl
    | cons a l => simp at hl
  | cons b m =>
    cases us with
    | nil => simp at hl
    | cons a l => simp
theorem op_eqNilT (hu : X.A.units < cLine) : OpR X (compareOp .Eq) (rEqNilT X.K) := by
  intro pins s σ H x y v u Q I rx ry h
  obtain ⟨a, b, xs, rfl, rfl, h1, h2, q⟩ := h
  cases rx
  cases ry
  obtain ⟨its, r, hl, _⟩ := I.tuple h1
  obtain ⟨its2, r2, hl2, _⟩ := I.tuple h2
  cases r2
  have z := SeqAt.RcAt.tuples (A := X.A) (e := fun _ => true) hl hl2 hu (fun j h1 h2 => absurd h2 (by simp))
  rw [nilT_key r.length] at z
  exact z X.prog X.w X.xe _ ⟨.bl xs.isEmpty, H, I, rfl, q⟩
theorem op_neNilT (hu : X.A.units < cLine) : OpR X (compareOp .NotEq) (rNeNilT X.K) := by
  intro pins s σ H x y v u Q I rx ry h
  obtain ⟨a, b, xs, rfl, rfl, h1, h2, q⟩ := h
  cases rx
  cases ry
  obtain ⟨its, r, hl, _⟩ := I.tuple h1
  obtain ⟨its2, r2, hl2, _⟩ := I.tuple h2
  cases r2
  have z := SeqAt.RcNeAt.tuples (A := X.A) (e := fun _ => true) hl hl2 hu (fun j h1 h2 => absurd h2 (by simp))
  rw [nilT_key r.length] at z
  exact z X.prog X.w X.xe _ ⟨.bl (!xs.isEmpty), H, I, rfl, q⟩
end
def rdEqNilT : PyData → PyData → (PyData → Prop) → Prop := fun d e P => match d, e with
  | .tuple xs, .tuple [] => P (.bool xs.isEmpty)
  | _, _ => False
def rdNeNilT : PyData → PyData → (PyData → Prop) → Prop := fun d e P => match d, e with
  | .tuple xs, .tuple [] => P (.bool (!xs.isEmpty))
  | _, _ => False
theorem empty_dp {K : PySem.W.Frag} {F : Hp} {vs : List V} {ds : List PyData} (h : DpAll K F vs ds) : vs.isEmpty = ds.isEmpty := by cases h <;> rfl
theorem opd_eqNilT {K : PySem.W.Frag} : OpD K (rEqNilT K) rdEqNilT := by
  intro E g env c σ H x y d e P Q r hx hy q k
  unfold rdEqNilT at q
  split at q
  · cases hx with
    | tup s1 a1 =>
      cases hy with
      | tup s2 a2 =>
        cases a2
        refine ⟨_, _, _, rfl, rfl, seqT r.ex s1, seqT r.ex s2, ?_⟩
        rw [empty_dp a1]
        exact k _ g H _ q (Mv.refl g H) r (.bl _)
  · exact q.elim
theorem opd_neNilT {K : PySem.W.Frag} : OpD K (rNeNilT K) rdNeNilT := by
  intro E g env c σ H x y d e P Q r hx hy q k
  unfold rdNeNilT at q
  split at q
  · cases hx with
    | tup s1 a1 =>
      cases hy with
      | tup s2 a2 =>
        cases a2
        refine ⟨_, _, _, rfl, rfl, seqT r.ex s1, seqT r.ex s2, ?_⟩
        rw [empty_dp a1]
        exact k _ g H _ q (Mv.refl g H) r (.bl _)
  · exact q.elim
section
variable {X : Cx} {E : En} {a b : Expr} {da db : DE} {pos : Pos}
theorem de_eqNilT {k : Nat} (hr : Room k X.A) (ha : DPE X E a da) (hb : DPE X E b db) : DPE X E (.Compare a [.Eq] [b] pos) (dOp rdEqNilT da db) := de_cmp (op_eqNilT (room_line hr)) opd_eqNilT ha hb
theorem de_neNilT {k : Nat} (hr : Room k X.A) (ha : DPE X E a da) (hb : DPE X E b db) : DPE X E (.Compare a [.NotEq] [b] pos) (dOp rdNeNilT da db) := de_cmp (op_neNilT (room_line hr)) opd_neNilT ha hb
theorem dt_eqNilT {k : Nat} (hr : Room k X.A) (ha : DPE X E a da) (hb : DPE X E b db) : DPT X E (.Compare a [.Eq] [b] pos) (tVal (dOp rdEqNilT da db)) := dt_cmp (op_eqNilT (room_line hr)) opd_eqNilT ha hb
theorem dt_neNilT {k : Nat} (hr : Room k X.A) (ha : DPE X E a da) (hb : DPE X E b db) : DPT X E (.Compare a [.NotEq] [b] pos) (tVal (dOp rdNeNilT da db)) := dt_cmp (op_neNilT (room_line hr)) opd_neNilT ha hb
end
end DL
set_option maxHeartbeats 2000000
/-! max(x, key=len) of a list of tuples, [..] * n, own lists asked (in, index), sorted of a tuple, // by negatives -/
namespace DL
open PySem PySem.Spec PyProof.Rows L2
section
variable {prog : Program} {w : World} {A : Around} {E : Value → Shared → Prop} {s : Shared}
theorem max_len_raw {l : Addr} {its : Array Value} {Q : Value → Shared → Prop} (hh : A.handled = none) (hl : s.heap.IsList l its) (ln : Nat → Nat) (hne : 0 < its.size)
    (ht : ∀ (i : Nat) (v : Value), its[i]? = some v → ∃ (t : Addr) (xs : Array Value), v = .ref t ∧ IsTup s.heap t xs ∧ xs.size = ln i ∧ (xs.size : Int) < 2 ^ 63)
    (h : ∀ h' tk v, (∀ b o, s.heap.get? b = some o → h'.get? b = some o) → its[argBest (fun i j => decide (((ln i : Nat) : Int) > (ln j : Nat))) (its.size - 1)]? = some v → Q v { s with heap := h', toks := tk }) :
    wpAny (model prog w) A (call (.builtin "max") [.ref l] [(Str.ofString "key", .builtin "len")]) Q E s := by
  refine PySem.call_max_walkKB (PySem.W.iter_listW (A := A.in1) hh hl fun s₂ e W st hfp hw hk => ?_)
  subst e
  refine ⟨_, _, _, _, _, _, _, (fun s' => ∃ h' tk, s' = { s with heap := h', toks := tk } ∧ ∀ b o, s.heap.get? b = some o → h'.get? b = some o), (fun i k _ => ∃ t, k = .int ((ln i : Nat) : Int) t), (fun i j => decide (((ln i : Nat) : Int) > (ln j : Nat))), rfl, W, st, hfp, hne, ⟨?_, ?_, ?_, ?_⟩, ⟨_, s.toks, rfl, hk⟩, ?_⟩
  · intro s1 s' ⟨h1, tk1, e1, k1⟩ m
    subst e1
    refine ⟨s'.heap, s'.toks, ?_, fun b o e => m.heap b o (fun hb => ?_) (k1 b o e)⟩
    · obtain ⟨hp, g, d, tk, os⟩ := s'
      have h1 : g = s.gens := m.gens
      have h2 : d = s.drawn := m.drawn
      have h3 : os = s.os := m.os
      subst h1
      subst h2
      subst h3
      rfl
    · have hlt := Heap.lt_size e
      rcases List.mem_cons.mp hb with z | z
      · have hz : b = (s.heap.push _).objs.size := z
        rw [Heap.size_push] at hz
        rw [hz] at hlt
        exact absurd hlt (Nat.not_lt.mpr (Nat.le_succ _))
      · exact hw b o e z
  · intro i k s1 s' hv _
    exact hv
  · intro i v s1 o Q' E' hi hP ⟨h1, tk1, e1, k1⟩ hst hS hQ
    subst e1
    obtain ⟨t, xs, rfl, htup, hsz, h63⟩ := ht i v hP
    refine len_tuple (htup.keeps k1) h63 ?_
    refine hQ _ _ ⟨h1, _, rfl, k1⟩ ?_ hS ⟨_, by rw [hsz]⟩ (fun j k' hv => hv)
    exact W.frame (i + 1) _ h1 _ hst (by show tk1 ≤ tk1 + 1 + 1; omega) fun b _ o e => e
  · intro i j ki kj s1 Q' E' _ hi hj hq
    exact CmpOf.ints_gt (prog := prog) (w := w) (A := A.in1) (P := fun i v => ∃ t, v = .int ((ln i : Nat) : Int) t) (fun i => ((ln i : Nat) : Int)) (fun i v h => h) i j ki kj s1 Q' E' hi hj hq
  · intro v s' hP ⟨h1, tk1, e1, k1⟩
    subst e1
    exact h h1 tk1 v k1 hP
end
def tMaxLen (K : PySem.W.Frag) (te : TE) : TE := fun σ H Q => te σ H fun x H1 => ∃ (a : Addr) (xs : List V) (ln : Nat → Nat), x = .ref a ∧ SqL K H1 a xs ∧ 0 < xs.length ∧
  (∀ i v, xs[i]? = some v → ∃ t ys, v = .ref t ∧ SqT K H1 t ys ∧ ys.length = ln i) ∧ ∀ v, xs[argBest (fun i j => decide (((ln i : Nat) : Int) > (ln j : Nat))) (xs.length - 1)]? = some v → Q v H1
section
variable {X : Cx} {E : En} {a : Expr} {te : TE} {pos p1 p2 p3 : Pos}
theorem pe_maxLen (hm : X.mg "max" = none) (hml : X.mg "len" = none) (ha : PE X a te) (hc : X.calm = true := by rfl) (hg : Gl X "max" := by rfl) (hgl : Gl X "len" := by rfl)
    (hs : starEach [a] X.env = (false, eval a X.env) :: starEach [] X.env := by rfl)
    (he : backTo pos (starEach [a] X.env) = (false, eval a X.env) :: backTo pos (starEach [] X.env) := by rfl)
    (hpl : (backTo pos (starEach [a] X.env)).any (·.1) = false := by rfl) : PE X (.Call (.Name "max" p1) [a] [⟨some "key", .Name "len" p2, p3⟩] pos) (tMaxLen X.K te) := by
  refine ⟨fun pins s σ H Q I h => ?_⟩
  refine wpAny_Call_Name_kw (ld_blt I hg hm (u := .builtin "max") (by decide +kernel) ?_)
  refine PyProof.Rows.callWith_kw (thn ((pa_cons ha pa_nil hs).run pos pins s σ H (fun vs H1 => match vs with | [x] => (∃ (a : Addr) (xs : List V) (ln : Nat → Nat), x = .ref a ∧ SqL X.K H1 a xs ∧ 0 < xs.length ∧ (∀ i v, xs[i]? = some v → ∃ t ys, v = .ref t ∧ SqT X.K H1 t ys ∧ ys.length = ln i) ∧ ∀ v, xs[argBest (fun i j => decide (((ln i : Nat) : Int) > (ln j : Nat))) (xs.length - 1)]? = some v → Q v H1) | _ => False) I ?_) fun us s1 hq => ?_) he hpl
  · exact h
  · obtain ⟨vs, H1, I1, r1, hq⟩ := hq
    obtain ⟨x, rfl⟩ : ∃ x, vs = [x] := by
      match vs, hq with
      | [x], _ => exact ⟨x, rfl⟩
    obtain ⟨l, xs, ln, rfl, hl, hne, hts, hQ⟩ := hq
    show wpAny _ _ (evalAll ((do let v ← eval (.Name "len" p2) X.env; standAt pos; pure v) :: [])) _ _ s1
    refine wpAny_evalAll_cons (wpAny_bind (ld_blt I1 hgl hml (u := .builtin "len") (by decide +kernel) (wpAny_bind (wpAny_standAt (wpAny_pure ?_)))))
    refine wpAny_evalAll_nil ?_
    rw [Vals.ref1 r1]
    obtain ⟨its, rv, pl, hz⟩ := I1.list hl
    have hlen := rv.length
    refine max_len_raw (I1.ok.hd hc) pl.isList ln (by simpa using (by omega : 0 < its.length)) (fun i v hv => ?_) fun h' tk v hk hv => ?_
    · have hi : i < xs.length := by
        have := (List.getElem?_eq_some_iff.mp (by simpa using hv : its[i]? = some v)).1
        omega
      obtain ⟨u, hu, ru⟩ := rv.get (List.getElem?_eq_getElem hi)
      have e : u = v := Option.some.inj (hu.symm.trans (by simpa using hv))
      subst e
      obtain ⟨t, ys, e1, hq, hl2⟩ := hts i _ (List.getElem?_eq_getElem hi)
      rw [e1] at ru
      obtain rfl : u = .ref t := ru
      obtain ⟨ts, rt, pt, hzt⟩ := I1.tuple hq
      have := rt.length
      refine ⟨t, _, rfl, pt, by rw [List.size_toArray]; omega, ?_⟩
      have := line63
      simp only [List.size_toArray]
      omega
    · have hv' : its[argBest (fun i j => decide (((ln i : Nat) : Int) > (ln j : Nat))) (xs.length - 1)]? = some v := by
        rw [hlen]
        simpa using hv
      have hi := (List.getElem?_eq_some_iff.mp hv').1
      obtain ⟨u, hu, ru⟩ := rv.get (List.getElem?_eq_getElem (by omega : argBest (fun i j => decide (((ln i : Nat) : Int) > (ln j : Nat))) (xs.length - 1) < xs.length))
      have e : u = v := Option.some.inj (hu.symm.trans hv')
      subst e
      exact ⟨_, H1, I1.kept hk, ru, hQ _ (List.getElem?_eq_getElem (by omega))⟩
/-- the first one of the longest -/
def lenB (tss : List (List PyData)) : Nat := argBest (fun i j => decide ((((tss.getD i []).length : Nat) : Int) > ((tss.getD j []).length : Nat))) (tss.length - 1)
theorem lenB_lt {tss : List (List PyData)} (h : 0 < tss.length) : lenB tss < tss.length := by
  have := (argBest_gt (fun i => (((tss.getD i []).length : Nat) : Int)) (tss.length - 1)).1
  show argBest _ _ < _
  omega
theorem lenB_max {tss : List (List PyData)} {j : Nat} (h : j < tss.length) : (tss.getD j []).length ≤ (tss.getD (lenB tss) []).length := by
  have := (argBest_gt (fun i => (((tss.getD i []).length : Nat) : Int)) (tss.length - 1)).2 j (by omega)
  have e : argBest (fun i j => decide ((fun i => (((tss.getD i []).length : Nat) : Int)) i > (fun i => (((tss.getD i []).length : Nat) : Int)) j)) (tss.length - 1) = lenB tss := rfl
  rw [e] at this
  simpa using this
def dMaxLen (da : DE) : DE := fun env c P => da env c fun x c1 => datK x fun d => match d with
  | .list ds => ∃ tss : List (List PyData), ds = tss.map PyData.tuple ∧ 0 < tss.length ∧ P (.dat (.tuple (tss.getD (lenB tss) []))) c1
  | _ => False
theorem de_maxLen {da : DE} (hm : X.mg "max" = none) (hml : X.mg "len" = none) (ha : DPE X E a da) (hc : X.calm = true := by rfl) (hg : Gl X "max" := by rfl) (hgl : Gl X "len" := by rfl)
    (hs : starEach [a] X.env = (false, eval a X.env) :: starEach [] X.env := by rfl)
    (he : backTo pos (starEach [a] X.env) = (false, eval a X.env) :: backTo pos (starEach [] X.env) := by rfl)
    (hpl : (backTo pos (starEach [a] X.env)).any (·.1) = false := by rfl) : DPE X E (.Call (.Name "max" p1) [a] [⟨some "key", .Name "len" p2, p3⟩] pos) (dMaxLen da) := by
  refine pe_imp (pe_maxLen hm hml ha hc hg hgl hs he hpl) fun σ H Q h => ?_
  obtain ⟨g, env, c, P, rel, q, k⟩ := h
  refine ⟨g, env, c, _, rel, q, fun x c1 g1 H1 v p1 m1 r1 o1 f1 => ?_⟩
  cases x with
  | deck => exact p1.elim
  | exc _ => exact p1.elim
  | own l => exact p1.elim
  | dat d =>
    cases d <;> try exact p1.elim
    rename_i ds
    have o1 : Dp X.K g1.F v (.list ds) := o1
    obtain ⟨tss, rfl, h0, hP⟩ := p1
    cases o1 with
    | @lst b xs _ hsq hal =>
      have hl : xs.length = tss.length := by rw [DpAll.len hal, List.length_map]
      have at_ : ∀ i, i < xs.length → ∃ v, xs[i]? = some v ∧ Dp X.K g1.F v (.tuple (tss.getD i [])) := fun i hi => by
        obtain ⟨v, e1, e2⟩ := DpAll.get (i := i) (d := .tuple (tss.getD i [])) hal (by
          have : i < tss.length := by omega
          simp [List.getD, this])
        exact ⟨v, e1, e2⟩
      refine ⟨b, xs, fun i => (tss.getD i []).length, rfl, r1.ex.seq hsq, by omega, fun i v hv => ?_, fun v hv => ?_⟩
      · obtain ⟨u, e1, e2⟩ := at_ i (List.getElem?_eq_some_iff.mp hv).1
        rw [hv] at e1
        cases e1
        cases e2 with
        | tup s2 a2 => exact ⟨_, _, rfl, seqT r1.ex s2, DpAll.len a2⟩
      · rw [hl] at hv
        obtain ⟨u, e1, e2⟩ := at_ (lenB tss) (by rw [hl]; exact lenB_lt h0)
        have e3 : xs[lenB tss]? = some v := hv
        rw [e3] at e1
        cases e1
        exact k _ c1 g1 H1 _ hP m1 r1 e2 trivial
/-! ### [..] * n -/
def fRep (dt : DF) (db : DE) : DF := fun env c P => dt env c fun l c1 => db env c1 fun y c2 => datK y fun e => intK e fun k => (0 ≤ k ∧ k < 2 ^ 63 ∧ l.length * k.toNat ≤ sizeLine) ∧ P (List.replicate k.toNat l).flatten c2
theorem df_rep {b : Expr} {db : DE} {dt : DF} (h : DPF X E a dt) (hb : DPE X E b db) : DPF X E (.BinOp a .Mult b pos) (fRep dt db) := by
  refine pe_imp (pe_op op_rep h hb) fun σ H Q h => ?_
  obtain ⟨g, env, c, P, rel, q, k⟩ := h
  refine ⟨g, env, c, _, rel, q, fun l c1 g1 H1 p xs hl m1 r1 hp hp' hF ha => ⟨g1, env, c1, _, r1, hl, fun y c2 g2 H2 u p2 m2 r2 o2 f2 => ?_⟩⟩
  have fr := (Frs.of rel m1 hp hp' hF ha).mv m2
  obtain ⟨ys, h5, h6⟩ := fr.at_
  cases y with
  | deck => exact p2.elim
  | exc _ => exact p2.elim
  | own l => exact p2.elim
  | dat e =>
    cases e <;> try exact p2.elim
    rename_i i
    have o2 : Dp X.K g2.F u (.int i) := o2
    obtain ⟨⟨h1, h2, h3⟩, p2⟩ := p2
    rw [dp_int o2]
    exact ⟨p, i, ys, rfl, rfl, h5, by omega, h2, by rw [DpAll.len h6]; exact h3, fun p' hp' => fresh_end k p2 (m1.trans m2) r2 (h6.rep i.toNat) p' hp'⟩
end
/-! ### x in l, l.index(x), of a list of one's own -/
def dOwnIn (i : Nat) (da : DE) : DE := fun env c P => da env c fun x c1 => datK x fun d => match env[i]? with
  | some (some (.own l)) => flatP d = true ∧ l.all flatP = true ∧ P (.dat (.bool (l.any fun y => eqP y d))) c1
  | _ => False
def dOwnIdx (i : Nat) (da : DE) : DE := fun env c P => match env[i]? with
  | some (some (.own l)) => da env c fun x c1 => datK x fun d => flatP d = true ∧ l.all flatP = true ∧ ∃ (j : Nat) (z : PyData), l[j]? = some z ∧ eqP z d = true ∧ (∀ (m : Nat) (z' : PyData), m < j → l[m]? = some z' → eqP z' d = false) ∧ P (.dat (.int (j : Nat))) c1
  | _ => False
section
variable {X : Cx} {E : En} {a : Expr} {da : DE} {pos : Pos}
theorem ownIn_up {K : PySem.W.Frag} {i : Nat} {σ : L2.St} {H : Hp} {Q : VK} (h : up K E (dOwnIn i da) σ H Q) : tOp (rIn K false) (up K E da) (tVar i) σ H Q := by
  obtain ⟨g, env, c, P, rel, q, k⟩ := h
  refine ⟨g, env, c, _, rel, q, fun x c1 g1 H1 v p1 m1 r1 o1 f1 => ?_⟩
  cases x with
  | deck => exact p1.elim
  | exc _ => exact p1.elim
  | own l => exact p1.elim
  | dat d =>
    have o1 : Dp K g1.F v d := o1
    have p1 : (match env[i]? with
      | some (some (.own l)) => flatP d = true ∧ l.all flatP = true ∧ P (.dat (.bool (l.any fun y => eqP y d))) c1
      | _ => False) := p1
    split at p1
    · rename_i l e
      obtain ⟨u, e1, p, xs, rfl, h3, h4, h5, h6⟩ := r1.sl i _ e
      refine ⟨_, e1, p, xs, rfl, .inl (.of h5), flat_dp o1 p1.1, flats_dp h6 p1.2.1, ?_⟩
      show Q (.bl (inV v xs)) H1
      rw [in_dp o1 p1.1 h6 p1.2.1]
      exact k _ c1 g1 H1 _ p1.2.2 m1 r1 (.bl _) trivial
    · exact p1.elim
theorem de_ownIn (i : Nat) {x : Str} {p1 : Pos} (ha : DPE X E a da) (hN : X.N[i]? = some x := by rfl) (hv : Vis X.env.scope x := by first | exact Or.inl rfl | exact Or.inr (Or.inl rfl) | exact Or.inr (Or.inr rfl)) (h1 : (x == ("__debug__" : Str)) = false := by decide)
    (h2 : (x == ("__classdict__" : Str)) = false := by decide) (hm : behindInMarks .In (.Name x p1) = false := by rfl) : DPE X E (.Compare a [.In] [.Name x p1] pos) (dOwnIn i da) :=
  pe_imp (pe_cmpR op_in_seq ha (pe_var hN hv h1 h2) hm) fun _ _ _ h => ownIn_up h
theorem dt_ownIn (i : Nat) {x : Str} {p1 : Pos} (ha : DPE X E a da) (hN : X.N[i]? = some x := by rfl) (hv : Vis X.env.scope x := by first | exact Or.inl rfl | exact Or.inr (Or.inl rfl) | exact Or.inr (Or.inr rfl)) (h1 : (x == ("__debug__" : Str)) = false := by decide)
    (h2 : (x == ("__classdict__" : Str)) = false := by decide) (hm : behindInMarks .In (.Name x p1) = false := by rfl) : DPT X E (.Compare a [.In] [.Name x p1] pos) (tVal (dOwnIn i da)) :=
  pt_imp (pt_cmpR op_in_seq ha (pe_var hN hv h1 h2) hm) fun _ _ _ h => tB_up (fun _ _ _ h => ownIn_up h) h
theorem de_ownIdx (i : Nat) {x : Str} {p1 p2 p3 : Pos} (h : DPE X E a da) (hN : X.N[i]? = some x := by rfl) (hv : Vis X.env.scope x := by first | exact Or.inl rfl | exact Or.inr (Or.inl rfl) | exact Or.inr (Or.inr rfl)) (h1 : (x == ("__debug__" : Str)) = false := by decide)
    (h2 : (x == ("__classdict__" : Str)) = false := by decide) (hb : attributeBase (.Name x p1) "index" X.env (eval (.Name x p1) X.env) = eval (.Name x p1) X.env := by rfl)
    (hfew : ((backTo p3 (starEach [a] X.env)).all (fun x => !x.1) && (backToKw p3 (keywordEach [] X.env)).all (fun x => x.1.isSome) && decide ([a].length + ([] : List Keyword).length + (if ([] : List Keyword).isEmpty then 0 else 1) < 30)) = true := by rfl)
    (hline : (p2.endLine == p3.line) = true := by rfl) (he : starEach [a] X.env = (false, eval a X.env) :: starEach [] X.env := by rfl) (hpl : (backTo p3 (starEach [] X.env)).any (·.1) = false := by rfl) :
    DPE X E (.Call (.Attribute (.Name x p1) "index" p2) [a] [] p3) (dOwnIdx i da) := by
  refine pe_imp (pe_bm PySem.F.plainAttrs_list PySem.F.slot_list_index PySem.F.type_list_index mt_index (pe_var hN hv h1 h2) (pa_cons h pa_nil he) hb hfew hline he hpl) fun σ H Q h => ?_
  obtain ⟨g, env, c, P, rel, q, k⟩ := h
  unfold dOwnIdx at q
  split at q
  · rename_i l e
    obtain ⟨v, e1, p, xs, rfl, h3, h4, h5, h6⟩ := rel.sl i _ e
    refine ⟨_, e1, .inl ⟨rfl, _, .of h5⟩, g, env, c, _, rel, q, fun y c1 g1 H1 w p1 m1 r1 o1 f1 => ?_⟩
    cases y with
    | deck => exact p1.elim
    | exc _ => exact p1.elim
    | own l => exact p1.elim
    | dat d =>
      have o1 : Dp X.K g1.F w d := o1
      obtain ⟨q1, q2, j, z, q3, q4, q5, q6⟩ := p1
      have h5' := m1.fr p _ h5 h4
      have h6' := dpAll_mono m1.f h6
      obtain ⟨u, e2, e3⟩ := h6'.get q3
      have fl : ∀ {y : PyData}, y ∈ l → flatP y = true := fun {y} hy => List.all_eq_true.mp q2 y hy
      refine ⟨p, xs, w, j, u, rfl, rfl, .of h5', flat_dp o1 q1, flats_dp h6' q2, e2, ?_, fun m z' hm hz => ?_, k _ c1 g1 H1 _ q6 m1 r1 (.int _) trivial⟩
      · rw [eq_dp e3 o1 (fl (List.mem_of_getElem? q3)) q1]
        exact q4
      · obtain ⟨d', e4, e5⟩ := h6'.getV hz
        rw [eq_dp e5 o1 (fl (List.mem_of_getElem? e4)) q1]
        exact q5 m d' hm e4
  · exact q.elim
/-! ### a // b, b of any sign -/
abbrev rdDivN := rdIc CDivN fun i j => .int (i.fdiv j)
theorem de_divN {b : Expr} {db : DE} (ha : DPE X E a da) (hb : DPE X E b db) : DPE X E (.BinOp a .FloorDiv b pos) (dOp rdDivN da db) := de_op op_fdivN (opd_I fun _ _ _ _ => .int _) ha hb
end
end DL
set_option maxHeartbeats 2000000
/-! sorted(t), t a tuple of ints -/
namespace DL
open PySem PySem.Spec PyProof.Rows L2
section
variable {prog : Program} {w : World} {A : Around} {E : Value → Shared → Prop} {s : Shared}
theorem collect_tup {t : Addr} {us : List Value} {Q : List Value → Shared → Prop} (ht : IsTup s.heap t us.toArray) (hz : us.length ≤ sizeLine)
    (h : Q us { s with heap := (s.heap.push (seqObj "list" #[] 0)).update s.heap.objs.size (Obj.mapSeq (· ++ us.toArray)) }) : wpAny (model prog w) A (collect (.ref t)) Q E s := by
  obtain ⟨ob, e1, e2, m, e3⟩ := id ht
  unfold collect
  refine wpAny_bind (wpAny_runValue (codeAny_builtin entry_proto_collect' ?_))
  show wpAny _ _ (do again (.builtin "list.__iadd__" ⟨[← newList [], .ref t], []⟩)) _ _ s
  refine wpAny_bind (wpAny_newList (wpAny_pure ⟨Code.quiet_builtin _ (by decide +kernel), codeAny_builtin entry_list_iadd' ?_⟩))
  show wpAny _ _ (Builtin.List.listExtendWith (.ref s.heap.objs.size) (.ref t) (.ref s.heap.objs.size)) _ _ { s with heap := s.heap.push (seqObj "list" #[] 0) }
  unfold Builtin.List.listExtendWith
  have e1' : (s.heap.push (seqObj "list" #[] 0)).get? t = some ob := Heap.get?_push_of_some _ e1
  refine wpAny_bind (wpAny_typeOf (T := "tuple") ⟨ob, e1', e2⟩ ?_)
  have q : (Value.type "tuple" == Value.type "tuple") = true := by rfl
  rw [if_pos (by rw [q]; simp)]
  refine wpAny_bind (listItems_at e1' e3 ?_)
  refine wpAny_bind (listItems_at (n := 0) (xs := #[]) (Heap.get?_push_size _ rfl) rfl ?_)
  rw [if_neg (by simp)]
  refine wpAny_bind (listUpdate_at (n := 0) (xs := #[]) (Heap.get?_push_size _ rfl) rfl ?_ (Nat.zero_le _) (by show (#[] ++ us.toArray).size ≤ sizeLine + 1; simp only [Array.size_append, List.size_toArray, List.length_nil]; omega))
  refine wpAny_pure ?_
  show wpAny (model prog w) A (do
      let ob ← load s.heap.objs.size
      match ob.data with
      | .seq xs _ => pure xs.toList
      | _ => unsupported "internal:collect") Q E { s with heap := (s.heap.push (seqObj "list" #[] 0)).update s.heap.objs.size (Obj.mapSeq (· ++ us.toArray)) }
  refine wpAny_bind (wpAny_load (get?_update_seq (Heap.get?_push_size _ rfl) _) ?_)
  show wpAny _ _ (pure ((#[] : Array Value) ++ us.toArray).toList) Q E _
  rw [show ((#[] : Array Value) ++ us.toArray).toList = us by simp]
  exact wpAny_pure h
theorem sorted_tup {t : Addr} {us : List Value} {ns : List Int} {Q : Value → Shared → Prop} (ht : IsTup s.heap t us.toArray) (hI : IntsAre us ns) (h64 : us.length < 64)
    (h : ∀ (out : Array Value) (ms : List Int), IntsAre out.toList ms → ms.Perm ns → ms.Pairwise (· ≤ ·) → Q (.ref (s.heap.objs.size + 1)) { s with heap := sortedAll s.heap us out }) : wpAny (model prog w) A (call (.builtin "sorted") [.ref t]) Q E s := by
  refine Calls.call_function_entry kind_sorted plain_sorted entry_sorted (args_sorted1 _) ?_
  unfold Builtin.«sorted»
  refine wpAny_bind (m := checkCount "sorted" 1 1 _) (wpAny_pure ?_)
  refine wpAny_bind (collect_tup ht (by rw [sizeLine_eq]; omega) ?_)
  refine wpAny_bind (wpAny_newList ?_ (by rw [sizeLine_eq]; omega))
  have z1 : ((s.heap.push (seqObj "list" #[] 0)).update s.heap.objs.size (Obj.mapSeq (· ++ us.toArray))).objs.size = s.heap.objs.size + 1 := by
    rw [Heap.size_update, size_push']
  have z2 : (((s.heap.push (seqObj "list" #[] 0)).update s.heap.objs.size (Obj.mapSeq (· ++ us.toArray))).push (seqObj "list" us.toArray 0)).get? (s.heap.objs.size + 1) = some (seqObj "list" us.toArray 0) := by
    rw [← z1]; exact Heap.get?_push_size _ rfl
  show wpAny _ _ _ _ _ { s with heap := ((s.heap.push (seqObj "list" #[] 0)).update s.heap.objs.size (Obj.mapSeq (· ++ us.toArray))).push (seqObj "list" us.toArray 0) }
  rw [z1]
  refine wpAny_bind (wpAny_holding (wpAny_call_entry slot_list_sort ⟨_, z2, rfl⟩ entry_list_sort (list_sort_tree z2 hI h64 fun out ms a1 a2 a3 => ⟨_, rfl, ?_⟩) (args_list_sort _)))
  exact wpAny_pure ⟨_, rfl, h out ms a1 a2 a3⟩
end
def rSortedU (K : PySem.W.Frag) : List V → Hp → VK → Prop := fun vs H Q => ∃ (a : Addr) (ns : List Int), vs = [V.ref a] ∧ SqT K H a (ns.map V.int) ∧ ns.length < 64 ∧
  ∀ (ms : List Int) (p : Addr), ms.Perm ns → ms.Pairwise (· ≤ ·) → H p = none → Q (.ref p) (upd H p (.lst (ms.map V.int)))
theorem cr_sortedU {X : Cx} : CallR X (.builtin "sorted") (rSortedU X.K) := by
  intro pins s σ H vs us Q I r h
  obtain ⟨a, ns, rfl, hs, h64, q⟩ := h
  obtain ⟨its, rv, hl, _⟩ := I.tuple hs
  rw [Vals.ref1 r]
  have hi := rv.ints
  refine sorted_tup hl hi (by rw [hi.length]; exact h64) fun out ms h1 h2 h3 => ?_
  obtain ⟨ep, he'⟩ := PyProof.Rows.sortedAll_at s.heap its out
  have hlen : (ms.map V.int).length ≤ sizeLine := by
    rw [List.length_map, h2.length_eq]
    exact small64 h64
  exact ⟨.ref _, upd H (s.heap.objs.size + 1) (.lst (ms.map V.int)), I.laid (t' := s.toks) (fun _ _ => PyProof.Rows.sortedAll_old) (Nat.le_succ _) ⟨hlen, out.toList, ep, vals_of_ints h1, he'⟩, rfl, q ms _ h2 h3 (I.hok.fresh (Nat.le_succ _))⟩
def rdSortedA : List PyData → (PyData → Prop) → Prop := fun ds P => match ds with
  | [.list xs] => ∃ ns, intsOf xs = some ns ∧ ns.length < 64 ∧ ∀ ms : List Int, ms.Perm ns → ms.Pairwise (· ≤ ·) → P (.list (dInts ms))
  | [.tuple xs] => ∃ ns, intsOf xs = some ns ∧ ns.length < 64 ∧ ∀ ms : List Int, ms.Perm ns → ms.Pairwise (· ≤ ·) → P (.list (dInts ms))
  | _ => False
theorem cd_sortedA {K : PySem.W.Frag} : CallD K (fun xs H Q => rSorted K xs H Q ∨ rSortedU K xs H Q) rdSortedA := by
  intro E g env c σ H xs ds P Q r h q k
  unfold rdSortedA at q
  split at q
  · cases h with
    | cons h1 t =>
      cases t
      cases h1 with
      | lst hs ha =>
        obtain ⟨ns, e, hl, q⟩ := q
        have ex := intsOf_dp e ha
        subst ex
        refine .inl ⟨_, ns, rfl, r.ex.seq hs, hl, fun ms p h1 h2 hp => ?_⟩
        obtain ⟨r2, m2⟩ := r.new (.lst (ms.map V.int)) hp
        exact k _ _ _ _ (q ms h1 h2) m2 r2 (.lst (.of upd_same) (dpAll_ints ms))
  · cases h with
    | cons h1 t =>
      cases t
      cases h1 with
      | tup hs ha =>
        obtain ⟨ns, e, hl, q⟩ := q
        have ex := intsOf_dp e ha
        subst ex
        refine .inr ⟨_, ns, rfl, seqT r.ex hs, hl, fun ms p h1 h2 hp => ?_⟩
        obtain ⟨r2, m2⟩ := r.new (.lst (ms.map V.int)) hp
        exact k _ _ _ _ (q ms h1 h2) m2 r2 (.lst (.of upd_same) (dpAll_ints ms))
  · exact q.elim
end DL
set_option maxHeartbeats 2000000
/-! a, b = e, e a list -/
namespace DL
open PySem PySem.Spec PyProof.Rows L2
def gLi (n : Nat) (u : DGs) : DG := fun x env k => datK x fun d => match d with
  | .list ds => ds.length = n ∧ u ds env k
  | _ => False
section
variable {X : Cx} {E : En} {pos : Pos}
theorem dg_lst {es : List Expr} {kk : Nat} {t : DGs} {n : Nat} {ws : List Nat} (h : DPGs X E ws es t) (hc : X.calm = true := by rfl)
    (hn : (assignEach es X.env).length = n := by rfl) (hst : (assignEach es X.env).findIdx? (·.1) = none := by rfl) : DPG X E ws (.Tuple es kk pos) (gLi n t) := by
  refine pg_imp (pg_unl hc h hn hst) fun v σ H Q h => ?_
  obtain ⟨g, env, c, x, P, rel, o, f, q, k⟩ := h
  cases x with
  | deck => exact q.elim
  | exc _ => exact q.elim
  | own l => exact f.elim
  | dat d =>
    cases d <;> try exact q.elim
    rename_i ds
    have o : Dp X.K g.F v (.list ds) := o
    cases o with
    | lst hs ha => exact ⟨_, _, rfl, rel.ex.seq hs, (DpAll.len ha).trans q.1, g, env, c, ds, _, rel, ha, q.2, k⟩
end
/-! ### a, b, c = e, f, [..]: the last a list of one's own -/
def sPar3F (i j l : Nat) (da db : DE) (dt : DF) : DS := fun D env c => da env c fun x c1 => db env c1 fun y c2 => dt env c2 fun m c3 => D.nx (((env.set l (some (.own m))).set i (some x)).set j (some y)) c3
section
variable {X : Cx} {E : En} {a b e : Expr} {da db : DE} {pos px py pz pt : Pos} {kt : Nat} {k2 : Nat} {pt2 : Pos} {x y z : Str}
theorem ds_par3F (i j l : Nat) {dt : DF} (hN : X.N.Nodup) (ha : DPE X E a da) (hb : DPE X E b db) (hf : DPF X E e dt) (hij : i ≠ j := by decide) (hil : i ≠ l := by decide) (hjl : j ≠ l := by decide) (hi : X.N[i]? = some x := by rfl) (hj : X.N[j]? = some y := by rfl) (hl : X.N[l]? = some z := by rfl)
    (hx : X.env.scope.names.lookup x = some .local := by rfl) (hy : X.env.scope.names.lookup y = some .local := by rfl) (hz : X.env.scope.names.lookup z = some .local := by rfl) (hc : X.calm = true := by rfl)
    (hw : swappedStores [.Tuple [.Name x px, .Name y py, .Name z pz] kt pt] (.Tuple [a, b, e] k2 pt2) X.env = pure (some [x, y, z]) := by rfl)
    (hs : swapsWithSole [.Tuple [.Name x px, .Name y py, .Name z pz] kt pt] (.Tuple [a, b, e] k2 pt2) pos.line X.env = pure false := by rfl)
    (he : starEach [a, b, e] X.env = (false, eval a X.env) :: starEach [b, e] X.env := by rfl) (he2 : starEach [b, e] X.env = (false, eval b X.env) :: starEach [e] X.env := by rfl) (he3 : starEach [e] X.env = (false, eval e X.env) :: starEach [] X.env := by rfl) :
    DPS X E (.Assign [.Tuple [.Name x px, .Name y py, .Name z pz] kt pt] (.Tuple [a, b, e] k2 pt2) pos) (sPar3F i j l da db dt) := by
  refine ps_imp (ps_par3 hc hN hi hj hl hij hil hjl hx hy hz (pa_cons ha (pa_cons hb (pa_cons hf pa_nil he3) he2) he) hw hs) fun D σ H h => ?_
  obtain ⟨g, env, c, P, rel, q, k, _⟩ := h
  refine ⟨g, env, c, _, rel, q, fun u c1 g1 H1 v p1 m1 r1 o1 f1 => ⟨g1, env, c1, _, r1, p1, fun u2 c2 g2 H2 v2 p2 m2 r2 o2 f2 => ⟨g2, env, c2, _, r2, p2, fun m c3 g3 H3 p xs hm m3 r3 hp hp' hF hal => ⟨v, v2, .ref p, rfl, ?_⟩⟩⟩⟩
  refine k _ c3 g3 _ H3 hm (m1.f.trans (m2.f.trans m3.f)) ?_
  rw [List.set_comm (l := σ.set i (some v)) _ _ hjl, List.set_comm (l := σ) _ _ hil]
  exact ((r3.takeOwn l (Frs.of r2 m3 hp hp' hF hal)).set i (VOk.mono (m2.trans m3).toMo f1 o1) f1).set j (VOk.mono m3.toMo f2 o2) f2
end
end DL
set_option maxHeartbeats 2000000
/-! tuple(range(n)), list(range(n)), list * n -/
namespace DL
open PySem PySem.Spec PyProof.Rows L2
theorem dpAll_rg {K : PySem.W.Frag} {F : Hp} (n : Int) : DpAll K F (rgV 0 n) (rangeD 0 n.toNat) := by
  unfold rgV rangeD
  rw [show (n - 0).toNat = n.toNat by rw [Int.sub_zero]]
  generalize List.range n.toNat = l
  induction l with
  | nil => exact .nil
  | cons k l ih => exact .cons (.int _) ih
def rdTupRg : PyData → (PyData → Prop) → Prop := fun d P => match d with
  | .int n => 0 ≤ n ∧ n ≤ 16777216 ∧ P (.tuple (rangeD 0 n.toNat))
  | _ => False
def rdLstRg : PyData → (PyData → Prop) → Prop := fun d P => match d with
  | .int n => 0 ≤ n ∧ n ≤ 16777216 ∧ P (.list (rangeD 0 n.toNat))
  | _ => False
section
variable {X : Cx} {E : En} {a : Expr} {p1 p2 pos pos2 : Pos}
theorem de_tupRg {da : DE} (hmr : X.mg "range" = none) (hmt : X.mg "tuple" = none) (ha : DPE X E a da) (hc : X.calm = true := by rfl) (hgr : Gl X "range" := by rfl) (hgt : Gl X "tuple" := by rfl)
    (na : starEach [a] X.env = (false, eval a X.env) :: starEach [] X.env := by rfl)
    (nb : starEach [.Call (.Name "range" p1) [a] [] pos] X.env = (false, eval (.Call (.Name "range" p1) [a] [] pos) X.env) :: starEach [] X.env := by rfl) :
    DPE X E (.Call (.Name "tuple" p2) [.Call (.Name "range" p1) [a] [] pos] [] pos2) (dUn rdTupRg da) := by
  refine pe_imp (pe_tupRg hc hgt hmt (prg_1 hgr hmr ha na) nb) fun σ H Q h => ?_
  obtain ⟨g, env, c, P, rel, q, k⟩ := h
  refine ⟨g, env, c, _, rel, q, fun x c1 g1 H1 v p1 m1 r1 o1 f1 => ?_⟩
  cases x with
  | deck => exact p1.elim
  | exc _ => exact p1.elim
  | own l => exact p1.elim
  | dat d =>
    cases d <;> try exact p1.elim
    rename_i n
    have o1 : Dp X.K g1.F v (.int n) := o1
    obtain ⟨h0, h1, hP⟩ := p1
    cases o1
    refine ⟨n, rfl, .of_le (Int.le_refl _) h1 (by decide) h0, fun b hb => ?_⟩
    obtain ⟨r2, m2⟩ := r1.new (.tup (rgV 0 n)) hb
    exact k _ _ _ _ _ hP (m1.trans m2) r2 (Dp.tup (.of upd_same) (dpAll_rg n)) trivial
theorem de_lstRg {da : DE} (hmr : X.mg "range" = none) (hmt : X.mg "list" = none) (ha : DPE X E a da) (hc : X.calm = true := by rfl) (hgr : Gl X "range" := by rfl) (hgt : Gl X "list" := by rfl)
    (na : starEach [a] X.env = (false, eval a X.env) :: starEach [] X.env := by rfl)
    (nb : starEach [.Call (.Name "range" p1) [a] [] pos] X.env = (false, eval (.Call (.Name "range" p1) [a] [] pos) X.env) :: starEach [] X.env := by rfl) :
    DPE X E (.Call (.Name "list" p2) [.Call (.Name "range" p1) [a] [] pos] [] pos2) (dUn rdLstRg da) := by
  refine pe_imp (pe_listRg hc hgt hmt (prg_1 hgr hmr ha na) nb) fun σ H Q h => ?_
  obtain ⟨g, env, c, P, rel, q, k⟩ := h
  refine ⟨g, env, c, _, rel, q, fun x c1 g1 H1 v p1 m1 r1 o1 f1 => ?_⟩
  cases x with
  | deck => exact p1.elim
  | exc _ => exact p1.elim
  | own l => exact p1.elim
  | dat d =>
    cases d <;> try exact p1.elim
    rename_i n
    have o1 : Dp X.K g1.F v (.int n) := o1
    obtain ⟨h0, h1, hP⟩ := p1
    cases o1
    refine ⟨n, rfl, .of_le (Int.le_refl _) h1 (by decide) h0, fun b hb => ?_⟩
    obtain ⟨r2, m2⟩ := r1.new (.lst (rgV 0 n)) hb
    exact k _ _ _ _ _ hP (m1.trans m2) r2 (Dp.lst (.of upd_same) (dpAll_rg n)) trivial
end
/-! ### a list times an int -/
theorem int_rmulW (a : Int) (t : Tok) (l : Addr) (items : Array Value) (n : Nat) (dd sl) :
    Meets (Builtin.«int.__rmul__» ⟨[.int a t, .ref l], []⟩) (fun _ R s => s.heap.get? l = some { cls := .type "list", dict := dd, data := .seq items n, slots := sl } ∧ R (.ok (.ret Value.notImplemented)) s) :=
  .of_wp fun prog w A R s h => by obtain ⟨hp, g, d, tk, os⟩ := s; obtain ⟨hl, h⟩ := h; wp_walk; exact ⟨_, rfl, h⟩
theorem list_mulW (l : Addr) (items : Array Value) (n : Nat) (x : Int) (u : Tok) (dd sl) (hc0 : ¬(!Builtin.List.listFitsIndex x) = true) (hc1 : ¬items.size * x.toNat > (2 ^ 63 - 1) / 8) (hc2 : ¬Builtin.List.listTooLong (items.size * x.toNat) = true) :
    Meets (Builtin.«list.__mul__» ⟨[.ref l, .int x u], []⟩) (fun _ R s => s.heap.get? l = some { cls := .type "list", dict := dd, data := .seq items n, slots := sl } ∧ R (.ok (.ret (Value.ref s.heap.objs.size))) { s with heap := s.heap.push { cls := Value.type "list", data := Data.seq (List.foldl (fun x1 x2 => x1 ++ x2) #[] (List.replicate (if items.isEmpty = true then 0 else x.toNat) items)) }, toks := s.toks }) :=
  .of_wp fun prog w A R s h => by
    obtain ⟨hp, g, d, tk, os⟩ := s; obtain ⟨hl, h⟩ := h
    have hsz := AutoListH.joined_fits hc2
    wp_walk; refine wpAny_ite_false (decide_eq_false (Nat.not_lt.mpr hsz)) ?_; wp_walk; exact ⟨_, rfl, h⟩
def rRepL (K : PySem.W.Frag) : R2 := fun x y H Q => ∃ l k xs, x = .ref l ∧ y = .int k ∧ SqL K H l xs ∧ -(2 ^ 63) ≤ k ∧ k < 2 ^ 63 ∧ xs.length * k.toNat ≤ sizeLine ∧
  ∀ p, H p = none → Q (.ref p) (upd H p (.lst (List.replicate k.toNat xs).flatten))
section
variable {X : Cx}
theorem op_repL : OpR X (binaryOp .Mult) (rRepL X.K) := by
  intro pins s σ H x y v u Q I rx ry h
  obtain ⟨l, k, xs, rfl, rfl, hH, h1, h2, hz, q⟩ := h
  cases rx
  obtain ⟨t, rfl⟩ := ry
  obtain ⟨its, r, ⟨⟨cls, dd, data, sl⟩, n, e, hc, _, hd⟩, hl⟩ := I.list hH
  simp only at hc hd
  subst hc hd
  have hl := r.length
  have hlen : its.toArray.size * k.toNat ≤ sizeLine := by rw [List.size_toArray, ← hl]; exact hz
  have hcap : ¬ its.toArray.size * k.toNat > (2 ^ 63 - 1) / 8 := by
    have : (sizeLine : Nat) ≤ (2 ^ 63 - 1) / 8 := by decide
    omega
  have hfit : ¬ (!Builtin.List.listFitsIndex k) = true := by
    rw [fitsIndex_both h1 h2]
    exact Bool.false_ne_true
  have hlong : ¬ Builtin.List.listTooLong (its.toArray.size * k.toNat) = true := by
    rw [notLongL hlen]
    exact Bool.false_ne_true
  have hnew : List.foldl (fun x1 x2 => x1 ++ x2) #[] (List.replicate (if its.toArray.isEmpty = true then 0 else k.toNat) its.toArray) = (List.replicate k.toNat its).flatten.toArray := by
    have f0 : ∀ m : Nat, List.foldl (fun x1 x2 => x1 ++ x2) #[] (List.replicate m its.toArray) = (List.replicate m its).flatten.toArray := fun m => by
      have := foldl_rep its m []
      rw [List.nil_append] at this
      exact this
    rw [f0]
    cases its with
    | nil => simp
    | cons a r' => rw [if_neg (by simp)]
  refine wpAny_binaryOp_repeat_ref (T := "list") (U := "int") (by decide) ⟨_, e, rfl⟩ (fun s' => typeIs_int s' k t) noFill_list_mul PySem.F.fills_int_mul PySem.F.slot_int_rmul repeat_list PySem.F.slot_int_index.lookup
    (call_meets PySem.F.slot_int_rmul (typeIs_int s k t) PySem.F.entry_int_rmul (PySem.F.args_int_rmul_2 _ _) (int_rmulW k t l its.toArray n dd sl)
      ⟨e, rfl, ⟨_, e, rfl⟩, call_meets PySem.F.slot_list_mul ⟨_, e, rfl⟩ PySem.F.entry_list_mul (PySem.F.args_list_mul_2 _ _) (list_mulW l its.toArray n k t dd sl hfit hcap hlong) ⟨e, ?_⟩⟩)
  rw [hnew]
  exact ⟨.ref _, _, I.lnew (t' := s.toks) (r.rep k.toNat) (by rw [PyProof.Rows.lm_len_rep_flat, Nat.mul_comm]; exact hz), rfl, q _ I.fresh⟩
end
def rdRepL : PyData → PyData → (PyData → Prop) → Prop := fun d e P => match d, e with
  | .list xs, .int k => (0 ≤ k ∧ k < 2 ^ 63 ∧ xs.length * k.toNat ≤ sizeLine) ∧ P (.list (List.replicate k.toNat xs).flatten)
  | _, _ => False
theorem opd_repL {K : PySem.W.Frag} : OpD K (rRepL K) rdRepL := by
  intro E g env c σ H x y d e P Q r hx hy q k
  unfold rdRepL at q
  split at q
  · rename_i xs kk
    obtain ⟨⟨h0, h1, hl⟩, q⟩ := q
    cases hx with
    | lst h1' a1 =>
      rw [dp_int hy]
      refine ⟨_, kk, _, rfl, rfl, r.ex.seq h1', by omega, h1, by rw [DpAll.len a1]; exact hl, fun p hp => ?_⟩
      obtain ⟨r2, m2⟩ := r.new (.lst _) hp
      exact k _ _ _ _ q m2 r2 (.lst (.of upd_same) ((dpAll_mono m2.f a1).rep _))
  · exact q.elim
section
variable {X : Cx} {E : En} {a b : Expr} {da db : DE} {pos : Pos}
theorem de_repL (ha : DPE X E a da) (hb : DPE X E b db) : DPE X E (.BinOp a .Mult b pos) (dOp rdRepL da db) := de_op op_repL opd_repL ha hb
end
end DL
set_option maxHeartbeats 2000000
/-! x in l, of data of any depth -/
namespace DL
open PySem PySem.Spec PyProof.Rows L2
def rdInD : PyData → PyData → (PyData → Prop) → Prop := fun d e P => match e with
  | .list es => SeqAt.shaped d = true ∧ SeqAt.shaped (.list es) = true ∧ P (.bool (es.any fun z => PyData.eqv z d))
  | _ => False
theorem opd_inD {K : PySem.W.Frag} : OpD K (rInD K) rdInD := by
  intro E g env c σ H x y d e P Q r hx hy q k
  unfold rdInD at q
  split at q
  · rename_i es
    exact ⟨_, es, dp_l2 (dpF r hx) (PyData.hasDict_of_canLay _ (SeqAt.canLay_of_shaped q.1)), dp_l2 (dpF r hy) (PyData.hasDict_of_canLay _ (SeqAt.canLay_of_shaped q.2.1)), q.1, q.2.1, k _ g H _ q.2.2 (Mv.refl g H) r (.bl _)⟩
  · exact q.elim
section
variable {X : Cx} {E : En} {a b : Expr} {da db : DE} {pos : Pos}
theorem de_inD {k : Nat} (hr : Room k X.A) (ha : DPE X E a da) (hb : DPE X E b db) (hm : behindInMarks .In b = false := by rfl) : DPE X E (.Compare a [.In] [b] pos) (dOp rdInD da db) := de_cmp (op_inD (by have := hr.un; omega)) opd_inD ha hb hm
theorem dt_inD {k : Nat} (hr : Room k X.A) (ha : DPE X E a da) (hb : DPE X E b db) (hm : behindInMarks .In b = false := by rfl) : DPT X E (.Compare a [.In] [b] pos) (tVal (dOp rdInD da db)) := dt_cmp (op_inD (by have := hr.un; omega)) opd_inD ha hb hm
end
end DL
namespace DL
open PySem PySem.Spec PyProof.Rows L2
/-! ### what a body means, run by rewriting: heads first, what comes later stays as it stands -/
structure Tg {α : Type} (a : α) : Type
/-- a call, its wish put away -/
def Cl (sp : Spec) (xs : List Vl) (c : Nat) (P : Vl → Nat → Prop) (_ : Tg P) : Prop := sp xs c P
def ClX (sp : SpecX) (xs : List Vl) (c : Nat) (P : Vl → Nat → Prop) (Px : Xd) (_ : Tg P) (_ : Tg Px) : Prop := sp xs c P Px
def Sq (C A : Prop) (_ : Tg A) : Prop := C ∧ A
def Br (b : Bool) (A B : Prop) (_ : Tg A) (_ : Tg B) : Prop := if b = true then A else B
def FL (dg : DG) (db : DS) (D : DEnds) (ds : List PyData) (env : Ev) (c : Nat) (_ : Tg D) : Prop := forL dg db D ds env c
def LL (dg : DG) (dt : DT) (de : DE) (env : Ev) (ds acc : List PyData) (c : Nat) (k : List PyData → Nat → Prop) (_ : Tg k) : Prop := lcL dg dt de env ds acc c k
def IxN (n : Nat) (j : Int) (f : Nat → Prop) (_ : Tg f) : Prop := ∃ k, ixN n j = some k ∧ f k
def IxK (ds : List PyData) (i : Int) (P : PyData → Prop) (_ : Tg P) : Prop := ixK ds (.int i) P
/-- a slot set, a slot read, the slots of an entry: one after the other -/
def SetK (env : Ev) (i : Nat) (x : Option Vl) (f : Ev → Prop) : Prop := f (env.set i x)
def OwnK (env : Ev) (i : Nat) (f : List PyData → Prop) : Prop := match env[i]? with
  | some (some (.own l)) => f l
  | _ => False
def StK (N : Nat) (args : List Vl) (f : Ev → Prop) : Prop := f (startE N args)
theorem startE_cons (n : Nat) (a : Vl) (r : List Vl) : startE (n + 1) (a :: r) = some a :: startE n r := by simp [startE]
theorem startE_none (n : Nat) : startE (n + 1) [] = none :: startE n [] := by simp [startE, List.replicate_succ]
theorem startE_zero : startE 0 [] = [] := rfl
theorem x_set0 {x y : Option Vl} {env : Ev} {f : Ev → Prop} : SetK (x :: env) 0 y f = f (y :: env) := rfl
theorem x_setS {x y : Option Vl} {env : Ev} {i : Nat} {f : Ev → Prop} : SetK (x :: env) (i + 1) y f = SetK env i y fun env' => f (x :: env') := rfl
theorem x_own0 {l : List PyData} {env : Ev} {f : List PyData → Prop} : OwnK (some (.own l) :: env) 0 f = f l := rfl
theorem x_ownS {x : Option Vl} {env : Ev} {i : Nat} {f : List PyData → Prop} : OwnK (x :: env) (i + 1) f = OwnK env i f := rfl
theorem x_st0 {f : Ev → Prop} : StK 0 [] f = f [] := rfl
theorem x_stS {n : Nat} {a : Vl} {r : List Vl} {f : Ev → Prop} : StK (n + 1) (a :: r) f = StK n r fun env => f (some a :: env) := by
  unfold StK
  rw [startE_cons]
theorem x_stN {n : Nat} {f : Ev → Prop} : StK (n + 1) [] f = StK n [] fun env => f (none :: env) := by
  unfold StK
  rw [startE_none]
def WipeM (env : Ev) (o : List (Str × Nat)) (f : Ev → Prop) : Prop := f (wipeE env (List.map (·.2) o))
theorem x_wm0 {env : Ev} {f : Ev → Prop} : WipeM env [] f = f env := rfl
theorem x_wmS {env : Ev} {a : Str} {i : Nat} {o : List (Str × Nat)} {f : Ev → Prop} : WipeM env ((a, i) :: o) f = WipeM env o fun env' => SetK env' i none f := rfl
/-- a wish that waits for a fact: an existential, a draw -/
def Sx (A : Prop) (_ : Tg A) : Prop := A
section
variable {D : DEnds} {env : Ev} {c : Nat} {P : Vl → Nat → Prop} {PT : Bool → Nat → Prop} {PA : List Vl → Nat → Prop} {PF : List PyData → Nat → Prop} {PD : PyData → Prop}
variable {s t u : DS} {da db dc : DE} {dr : DA} {ta tb : DT} {dg : DG} {dgs : DGs} {dw : DI} {df dh : DF} {d e : PyData} {i j k : Nat}
theorem x_seq {a : Ev → Nat → Prop} {b : Vl → Nat → Prop} {e f : Ev → Nat → Prop} : sSeq s t (no_index (DEnds.mk a b e f)) env c = s (DEnds.mk (t (DEnds.mk a b e f)) b e f) env c := rfl
theorem x_nx : sNx D env c = D.nx env c := rfl
theorem x_ret : sRet da D env c = da env c D.rt := rfl
theorem x_retN : sRetN D env c = D.rt (.dat .none) c := rfl
theorem x_asg : sAsg da dg D env c = da env c fun x c1 => dg x env fun env' => D.nx env' c1 := rfl
theorem x_if : sIf ta s u D env c = ta env c fun b c1 => Br b (s D env c1) (u D env c1) {} {} := rfl
theorem x_drop : sDrop da D env c = da env c fun _ c1 => D.nx env c1 := rfl
theorem x_brk : sBrk D env c = D.bk env c := rfl
theorem x_cnt : sCnt D env c = D.ct env c := rfl
theorem x_par : sPar i j dr D env c = dr env c fun xs c1 => match xs with
  | [x, y] => SetK env i (some x) fun env' => SetK env' j (some y) fun env' => D.nx env' c1
  | _ => False := rfl
theorem x_par3 : sPar3 i j k dr D env c = dr env c fun xs c1 => match xs with
  | [x, y, z] => SetK env i (some x) fun env' => SetK env' j (some y) fun env' => SetK env' k (some z) fun env' => D.nx env' c1
  | _ => False := rfl
theorem x_for : sFor dw dg s D env c = dw env c fun items c1 => FL dg s D items env c1 {} := rfl
theorem x_new : sNew i D env c = SetK env i (some (.own [])) fun env' => D.nx env' c := rfl
theorem x_app : sApp i da D env c = OwnK env i fun l => da env c fun x c1 => datK x fun d => Sq (l.length < sizeLine) (SetK env i (some (.own (l ++ [d]))) fun env' => D.nx env' c1) {} := rfl
theorem x_frz : sFrz i s D env c = OwnK env i fun l => SetK env i (some (.dat (.list l))) fun env' => s D env' c := rfl
theorem x_ownSet : sOwnSet i da db D env c = da env c fun x c1 => datK x fun d => OwnK env i fun l => db env c1 fun y c2 => datK y fun e => intK e fun j => IxN l.length j (fun k => SetK env i (some (.own (l.set k d))) fun env' => D.nx env' c2) {} := rfl
theorem x_own : sOwn i df D env c = df env c fun l c1 => SetK env i (some (.own l)) fun env' => D.nx env' c1 := rfl
theorem x_parF : sParF i j df db D env c = df env c fun l c1 => db env c1 fun y c2 => SetK env i (some (.own l)) fun env' => SetK env' j (some y) fun env' => D.nx env' c2 := rfl
theorem x_parFF : sParFF i j df dh D env c = df env c fun l c1 => dh env c1 fun m c2 => SetK env i (some (.own l)) fun env' => SetK env' j (some (.own m)) fun env' => D.nx env' c2 := rfl
theorem x_parEF : sParEF i j da df D env c = da env c fun y c1 => df env c1 fun l c2 => SetK env i (some y) fun env' => SetK env' j (some (.own l)) fun env' => D.nx env' c2 := rfl
theorem x_par3F : sPar3F i j k da db df D env c = da env c fun x c1 => db env c1 fun y c2 => df env c2 fun m c3 => SetK env k (some (.own m)) fun env' => SetK env' i (some x) fun env' => SetK env' j (some y) fun env' => D.nx env' c3 := rfl
theorem x_newLst : sNewLst i da D env c = da env c fun x c1 => datK x fun d => match d with
  | .list xs => SetK env i (some (.own xs)) fun env' => D.nx env' c1
  | .tuple xs => SetK env i (some (.own xs)) fun env' => D.nx env' c1
  | _ => False := rfl
-- expressions
theorem x_dat {f : PyData → Prop} : datK (.dat d) f = f d := rfl
theorem x_int {f : Int → Prop} {i : Int} : intK (.int i) f = f i := rfl
theorem x_bool {f : Bool → Prop} {b : Bool} : boolK (.bool b) f = f b := rfl
theorem x_tru0 {f : Bool → Prop} : truK .none f = f false := rfl
theorem x_truB {f : Bool → Prop} {b : Bool} : truK (.bool b) f = f b := rfl
theorem x_truI {f : Bool → Prop} {i : Int} : truK (.int i) f = f (i != 0) := rfl
theorem x_truL {f : Bool → Prop} {l : List PyData} : truK (.list l) f = f (!l.isEmpty) := rfl
theorem x_truT {f : Bool → Prop} {l : List PyData} : truK (.tuple l) f = f (!l.isEmpty) := rfl
theorem x_v0 {env : Ev} : dVar 0 (some (.dat d) :: env) c P = P (.dat d) c := rfl
theorem x_v0k {env : Ev} : dVar 0 (some .deck :: env) c P = P .deck c := rfl
theorem x_v0e {env : Ev} {a : Addr} : dVar 0 (some (.exc a) :: env) c P = P (.exc a) c := rfl
theorem x_vS {env : Ev} {x : Option Vl} : dVar (i + 1) (x :: env) c P = dVar i env c P := rfl
theorem x_c : dC d env c P = P (.dat d) c := rfl
theorem x_op {rd} : dOp rd da db env c P = da env c fun x c1 => datK x fun d => db env c1 fun y c2 => datK y fun e => rd d e fun z => P (.dat z) c2 := rfl
theorem x_un {rd} : dUn rd da env c P = da env c fun x c1 => datK x fun d => rd d fun z => P (.dat z) c1 := rfl
theorem x_anil : aNil env c PA = PA [] c := rfl
theorem x_acons : aCons da dr env c PA = da env c fun x c1 => dr env c1 fun xs c2 => PA (x :: xs) c2 := rfl
theorem x_call {sp : Spec} : dCall sp dr env c P = dr env c fun xs c1 => Cl sp xs c1 P {} := rfl
theorem x_callX {sp : SpecX} {W : XW} : dCallX i sp W dr env c P = dr env c fun xs c1 => Sq (xs.length = i) (ClX sp xs c1 P (fun y fs c2 => W y fs env c2) {} {}) {} := rfl
theorem x_callV {sp : Spec} : dCallV sp dr env c P = dr env c fun xs c1 => datsK xs fun ds => Sq (ds.length ≤ sizeLine) (Cl sp [.dat (.tuple ds)] c1 P {}) {} := rfl
theorem x_callVX {sp : SpecX} {W : XW} : dCallVX sp W dr env c P = dr env c fun xs c1 => datsK xs fun ds => Sq (ds.length ≤ sizeLine) (ClX sp [.dat (.tuple ds)] c1 P (fun y fs c2 => W y fs env c2) {} {}) {} := rfl
theorem x_dats0 {f : List PyData → Prop} : datsK [] f = f [] := rfl
theorem x_datsS {f : List PyData → Prop} {r : List Vl} : datsK (.dat d :: r) f = datsK r fun ds => f (d :: ds) := rfl
theorem x_cb {rd} : dCB rd dr env c P = dr env c fun xs c1 => datsK xs fun ds => rd ds fun z => P (.dat z) c1 := rfl
theorem x_rdI {f : Int → Int → PyData} : rdI f d e PD = intK d fun i => intK e fun j => PD (f i j) := rfl
theorem x_rdIc {C : Int → Int → Prop} {f : Int → Int → PyData} : rdIc C f d e PD = intK d fun i => intK e fun j => Sq (C i j) (PD (f i j)) {} := rfl
theorem x_neg : rdNeg d PD = intK d fun i => PD (.int (-i)) := rfl
theorem x_eqS {x y : Str} : rdEq (.str x) (.str y) PD = PD (.bool (decide (x = y))) := rfl
theorem x_eqI {x y : Int} : rdEq (.int x) (.int y) PD = PD (.bool (decide (x = y))) := rfl
theorem x_eqB {x y : Bool} : rdEq (.bool x) (.bool y) PD = PD (.bool (decide (x = y))) := by
  show (_ ∧ _ ∧ _) = _
  have : PyData.eqv (.bool x) (.bool y) = decide (x = y) := by cases x <;> cases y <;> rfl
  rw [this]
  cases x <;> cases y <;> simp [SeqAt.shaped, PyData.canLay0, PyData.depth]
theorem x_eqL {x y : List PyData} : rdEq (.list x) (.list y) PD = Sq (SeqAt.shaped (.list x) = true) (Sq (SeqAt.shaped (.list y) = true) (PD (.bool (PyData.eqv (.list x) (.list y)))) {}) {} := rfl
theorem x_eqT {x y : List PyData} : rdEq (.tuple x) (.tuple y) PD = Sq (SeqAt.shaped (.tuple x) = true) (Sq (SeqAt.shaped (.tuple y) = true) (PD (.bool (PyData.eqv (.tuple x) (.tuple y)))) {}) {} := rfl
theorem x_eqNT {y : List PyData} : rdEq .none (.tuple y) PD = Sq (SeqAt.shaped (.tuple y) = true) (PD (.bool false)) {} := by
  show (_ ∧ _ ∧ _) = (_ ∧ _)
  simp [SeqAt.shaped, PyData.canLay0, PyData.depth, PyData.eqv]
theorem x_eqTN {y : List PyData} : rdEq (.tuple y) .none PD = Sq (SeqAt.shaped (.tuple y) = true) (PD (.bool false)) {} := by
  show (_ ∧ _ ∧ _) = (_ ∧ _)
  simp [SeqAt.shaped, PyData.canLay0, PyData.depth, PyData.eqv]
theorem x_eqNN : rdEq .none .none PD = PD (.bool true) := by
  show (_ ∧ _ ∧ _) = _
  simp [SeqAt.shaped, PyData.canLay0, PyData.depth, PyData.eqv]
theorem x_ne : rdNe d e PD = rdEq d e fun z => boolK z fun b => PD (.bool (!b)) := rfl
theorem x_isN0 : rdIsN .none PD = PD (.bool true) := rfl
theorem x_isNI {i : Int} : rdIsN (.int i) PD = PD (.bool false) := rfl
theorem x_isNB {i : Bool} : rdIsN (.bool i) PD = PD (.bool false) := rfl
theorem x_isNS {i : Str} : rdIsN (.str i) PD = PD (.bool false) := rfl
theorem x_isNT {l : List PyData} : rdIsN (.tuple l) PD = PD (.bool false) := rfl
theorem x_isNL {l : List PyData} : rdIsN (.list l) PD = PD (.bool false) := rfl
theorem x_ntN0 : rdNotN .none PD = PD (.bool false) := rfl
theorem x_ntNI {i : Int} : rdNotN (.int i) PD = PD (.bool true) := rfl
theorem x_ntNB {i : Bool} : rdNotN (.bool i) PD = PD (.bool true) := rfl
theorem x_ntNS {i : Str} : rdNotN (.str i) PD = PD (.bool true) := rfl
theorem x_ntNT {l : List PyData} : rdNotN (.tuple l) PD = PD (.bool true) := rfl
theorem x_ntNL {l : List PyData} : rdNotN (.list l) PD = PD (.bool true) := rfl
theorem x_ixL {ds : List PyData} {i : Int} : rdIx (.list ds) (.int i) PD = IxK ds i PD {} := rfl
theorem x_ixT {ds : List PyData} {i : Int} : rdIx (.tuple ds) (.int i) PD = IxK ds i PD {} := rfl
theorem x_ixO {ds : List PyData} {i : Int} : ixK ds (.int i) PD = IxK ds i PD {} := rfl
theorem x_ixAt {ds : List PyData} {j : Nat} {z : PyData} {tg : Tg PD} (h : ds[j]? = some z) : IxK ds (j : Int) PD tg = PD z := by
  show (match atI ds (j : Int) with | some z => PD z | none => False) = _
  rw [atI_nat h]
theorem x_ix0 {x0 : PyData} {ds : List PyData} {tg : Tg PD} : IxK (x0 :: ds) 0 PD tg = PD x0 := x_ixAt (j := 0) rfl
theorem x_ix1 {x0 x1 : PyData} {ds : List PyData} {tg : Tg PD} : IxK (x0 :: x1 :: ds) 1 PD tg = PD x1 := x_ixAt (j := 1) rfl
theorem x_ix2 {x0 x1 x2 : PyData} {ds : List PyData} {tg : Tg PD} : IxK (x0 :: x1 :: x2 :: ds) 2 PD tg = PD x2 := x_ixAt (j := 2) rfl
theorem x_ix3 {x0 x1 x2 x3 : PyData} {ds : List PyData} {tg : Tg PD} : IxK (x0 :: x1 :: x2 :: x3 :: ds) 3 PD tg = PD x3 := x_ixAt (j := 3) rfl
theorem x_inTt {es : List PyData} : rdIn true d (.tuple es) PD = Sq (flatP d = true) (Sq (es.all flatP = true) (PD (.bool (!(es.any fun y => eqP y d)))) {}) {} := rfl
theorem x_inTf {es : List PyData} : rdIn false d (.tuple es) PD = Sq (flatP d = true) (Sq (es.all flatP = true) (PD (.bool (es.any fun y => eqP y d))) {}) {} := rfl
theorem x_inLt {es : List PyData} : rdIn true d (.list es) PD = Sq (flatP d = true) (Sq (es.all flatP = true) (PD (.bool (!(es.any fun y => eqP y d)))) {}) {} := rfl
theorem x_inLf {es : List PyData} : rdIn false d (.list es) PD = Sq (flatP d = true) (Sq (es.all flatP = true) (PD (.bool (es.any fun y => eqP y d))) {}) {} := rfl
theorem x_tup : dTup dr env c P = dr env c fun xs c1 => datsK xs fun ds => Sq (ds.length ≤ sizeLine) (P (.dat (.tuple ds)) c1) {} := rfl
theorem x_lst : dLst dr env c P = dr env c fun xs c1 => datsK xs fun ds => Sq (ds.length ≤ sizeLine) (P (.dat (.list ds)) c1) {} := rfl
theorem x_lenL {l : List PyData} : rdLen [.list l] PD = PD (.int l.length) := rfl
theorem x_lenT {l : List PyData} : rdLen [.tuple l] PD = PD (.int l.length) := rfl
theorem x_tupL {l : List PyData} : rdTuple [.list l] PD = PD (.tuple l) := rfl
theorem x_tupT {l : List PyData} : rdTuple [.tuple l] PD = PD (.tuple l) := rfl
theorem x_lstL {l : List PyData} : rdList [.list l] PD = PD (.list l) := rfl
theorem x_lstT {l : List PyData} : rdList [.tuple l] PD = PD (.list l) := rfl
theorem x_sumL {ns : List Int} : rdSumA [.list (dInts ns)] PD = PD (.int ns.sum) := by
  show (∃ ms, intsOf (dInts ns) = some ms ∧ _) = _
  rw [show intsOf (dInts ns) = some ns from intsOf_map ns]
  simp
theorem x_sumT {ns : List Int} : rdSumA [.tuple (dInts ns)] PD = PD (.int ns.sum) := by
  show (∃ ms, intsOf (dInts ns) = some ms ∧ _) = _
  rw [show intsOf (dInts ns) = some ns from intsOf_map ns]
  simp
theorem x_max {i j : Int} : rdMaxA [.int i, .int j] PD = PD (.int (max i j)) := rfl
theorem x_min {i j : Int} : rdMinA [.int i, .int j] PD = PD (.int (min i j)) := rfl
theorem x_abs {i : Int} : rdAbs [.int i] PD = PD (.int (if i < 0 then -i else i)) := rfl
theorem x_intI {i : Int} : rdInt1 [.int i] PD = PD (.int i) := rfl
theorem x_intB {b : Bool} : rdInt1 [.bool b] PD = PD (.int (if b then 1 else 0)) := rfl
theorem x_if1 : (if (true = true) then (1 : Int) else 0) = 1 := by simp
theorem x_if0 : (if (false = true) then (1 : Int) else 0) = 0 := by simp
theorem x_repr : rdRepr [d] PD = Sq (shows d) (PD (.str d.shown)) {} := rfl
theorem x_ty {f : PyData → Bool} : rdTy f d PD = PD (.bool (f d)) := rfl
theorem x_addUI {i j : Int} : rdAddU (.int i) (.int j) PD = PD (.int (i + j)) := rfl
theorem x_addUT {x y : List PyData} : rdAddU (.tuple x) (.tuple y) PD = Sq (x.length + y.length ≤ sizeLine) (PD (.tuple (x ++ y))) {} := rfl
theorem x_addRT {a : List R4} {y : List PyData} : rdAddU (rDs a) (.tuple y) PD = Sq (a.length + y.length ≤ sizeLine) (PD (.tuple (a.map rD ++ y))) {} := by
  show ((a.map rD).length + y.length ≤ sizeLine ∧ _) = (_ ∧ _)
  rw [List.length_map]
theorem x_addRR {a b : List R4} : rdAddU (rDs a) (rDs b) PD = Sq (a.length + b.length ≤ sizeLine) (PD (rDs (a ++ b))) {} := by
  show ((a.map rD).length + (b.map rD).length ≤ sizeLine ∧ PD (.tuple (a.map rD ++ b.map rD))) = (_ ∧ PD (.tuple ((a ++ b).map rD)))
  rw [List.length_map, List.length_map, List.map_append]
theorem x_lenR {a : List R4} : rdLen [rDs a] PD = PD (.int a.length) := by
  show PD (.int (a.map rD).length) = _
  rw [List.length_map]
theorem x_revR {a : List R4} : rdRevT (rDs a) PD = PD (rDs a.reverse) := by
  show PD (.tuple (a.map rD).reverse) = PD (.tuple (a.reverse.map rD))
  rw [List.map_reverse]
theorem x_isNR {a : List R4} : rdIsN (rDs a) PD = PD (.bool false) := rfl
theorem x_addXL {x y : List PyData} : rdAddX (.list x) (.list y) PD = Sq (x.length + y.length ≤ sizeLine) (PD (.list (x ++ y))) {} := rfl
theorem x_addXT {x y : List PyData} : rdAddX (.tuple x) (.tuple y) PD = rdAddU (.tuple x) (.tuple y) PD := rfl
theorem x_addXI {i j : Int} : rdAddX (.int i) (.int j) PD = rdAddU (.int i) (.int j) PD := rfl
theorem x_revT {x : List PyData} : rdRevT (.tuple x) PD = PD (.tuple x.reverse) := rfl
theorem x_isB {x y : Bool} : rdIsB (.bool x) (.bool y) PD = PD (.bool (decide (x = y))) := rfl
theorem x_ntB {x y : Bool} : rdNotB (.bool x) (.bool y) PD = PD (.bool (!decide (x = y))) := rfl
theorem x_neNil {x : List PyData} : rdNeNil (.list x) (.list []) PD = PD (.bool (!x.isEmpty)) := rfl
theorem x_eqNil {x : List PyData} : rdEqNil (.list x) (.list []) PD = PD (.bool x.isEmpty) := rfl
theorem x_neNilT {x : List PyData} : rdNeNilT (.tuple x) (.tuple []) PD = PD (.bool (!x.isEmpty)) := rfl
theorem x_eqNilT {x : List PyData} : rdEqNilT (.tuple x) (.tuple []) PD = PD (.bool x.isEmpty) := rfl
theorem x_mulUI {i j : Int} : rdMulU (.int i) (.int j) PD = Sq (CMul i j) (PD (.int (i * j))) {} := rfl
theorem x_tupRg {i : Int} : rdTupRg (.int i) PD = Sq (0 ≤ i) (Sq (i ≤ 16777216) (PD (.tuple (rangeD 0 i.toNat))) {}) {} := rfl
theorem x_lstRg {i : Int} : rdLstRg (.int i) PD = Sq (0 ≤ i) (Sq (i ≤ 16777216) (PD (.list (rangeD 0 i.toNat))) {}) {} := rfl
theorem x_slT {lo hi : DO} : dSlT da lo hi env c P = da env c fun x c1 => datK x fun d => lo env c1 fun l c2 => hi env c2 fun u c3 => match d with
  | .tuple ds => P (.dat (.tuple (cutD ds l u))) c3
  | _ => False := rfl
theorem x_cut1 {a : PyData} {l : List PyData} : cutD (a :: l) (some 1) none = l := by
  unfold cutD
  rw [show HT.sIx (a :: l).length 0 (some (1 : Int)) = min 1 (a :: l).length from HT.sIx_nat _ _ 1, show HT.sIx (a :: l).length (a :: l).length none = (a :: l).length from rfl]
  have e : min 1 (a :: l).length = 1 := by simp
  rw [e]
  simp
theorem x_evTC {x y : PyData} {l m : List PyData} : PyData.eqv (.tuple (x :: l)) (.tuple (y :: m)) = (PyData.eqv x y && PyData.eqv (.tuple l) (.tuple m)) := by simp [PyData.eqv, PyData.eqvAll]
theorem x_evTN : PyData.eqv (.tuple []) (.tuple []) = true := by simp [PyData.eqv, PyData.eqvAll]
theorem x_evLC {x y : PyData} {l m : List PyData} : PyData.eqv (.list (x :: l)) (.list (y :: m)) = (PyData.eqv x y && PyData.eqv (.list l) (.list m)) := by simp [PyData.eqv, PyData.eqvAll]
theorem x_evLN : PyData.eqv (.list []) (.list []) = true := by simp [PyData.eqv, PyData.eqvAll]
theorem x_evI {i j : Int} : PyData.eqv (.int i) (.int j) = decide (i = j) := by
  by_cases h : i = j <;> simp [PyData.eqv, h]
theorem x_evS {i j : Str} : PyData.eqv (.str i) (.str j) = decide (i = j) := by
  by_cases h : i = j <;> simp [PyData.eqv, h]
theorem x_evB {i j : Bool} : PyData.eqv (.bool i) (.bool j) = decide (i = j) := by
  cases i <;> cases j <;> rfl
theorem x_evNN : PyData.eqv .none .none = true := by simp [PyData.eqv]
theorem x_evNI {i : Int} : PyData.eqv .none (.int i) = false := by simp [PyData.eqv]
theorem x_evIN {i : Int} : PyData.eqv (.int i) .none = false := by simp [PyData.eqv]
theorem x_evNT {l : List PyData} : PyData.eqv .none (.tuple l) = false := by simp [PyData.eqv]
theorem x_evTNo {l : List PyData} : PyData.eqv (.tuple l) .none = false := by simp [PyData.eqv]
theorem x_oNo {Po : Option Int → Nat → Prop} : oNo env c Po = Po none c := rfl
theorem x_oSome {Po : Option Int → Nat → Prop} : oSome da env c Po = da env c fun x c1 => datK x fun d => intK d fun i => Po (some i) c1 := rfl
theorem x_chain {r r'} : dChain r r' da db dc env c P = da env c fun x c1 => datK x fun d => db env c1 fun y c2 => datK y fun e => r d e fun z => boolK z fun k => Br k (dc env c2 fun w c3 => datK w fun u => r' e u fun z => P (.dat z) c3) (P (.dat (.bool false)) c2) {} {} := rfl
theorem x_val : tVal da env c PT = da env c fun x c1 => datK x fun d => boolK d fun b => PT b c1 := rfl
theorem x_tnt : tNt ta env c PT = ta env c fun b c1 => PT (!b) c1 := rfl
theorem x_tan : tAn ta tb env c PT = ta env c fun b c1 => Br b (tb env c1 PT) (PT false c1) {} {} := rfl
theorem x_too : tOo ta tb env c PT = ta env c fun b c1 => Br b (PT true c1) (tb env c1 PT) {} {} := rfl
theorem x_dnt : dNt da env c P = da env c fun x c1 => datK x fun d => boolK d fun b => P (.dat (.bool (!b))) c1 := rfl
theorem x_dan : dAn da db env c P = da env c fun x c1 => datK x fun d => boolK d fun b => Br b (db env c1 P) (P (.dat (.bool false)) c1) {} {} := rfl
theorem x_doo : dOo da db env c P = da env c fun x c1 => datK x fun d => boolK d fun b => Br b (P (.dat (.bool true)) c1) (db env c1 P) {} {} := rfl
theorem x_dorT : dOrT da db env c P = da env c fun x c1 => datK x fun d => truK d fun b => Br b (P (.dat d) c1) (db env c1 P) {} {} := rfl
theorem x_ife : dIfE ta da db env c P = ta env c fun b c1 => Br b (da env c1 P) (db env c1 P) {} {} := rfl
theorem x_lc {o : List (Str × Nat)} : dLc dw dg ta da (List.map (·.2) o) env c P = dw env c fun items c1 => WipeM env o fun env' => Sq (items.length < sizeLine) (LL dg ta da env' items [] c1 (fun out c2 => P (.dat (.list out)) c2) {}) {} := rfl
theorem x_flc {o : List (Str × Nat)} : fLc dw dg ta da (List.map (·.2) o) env c PF = dw env c fun items c1 => WipeM env o fun env' => Sq (items.length < sizeLine) (LL dg ta da env' items [] c1 PF {}) {} := rfl
theorem x_ton : tOn env c PT = PT true c := rfl
theorem x_flst : fLst dr env c PF = dr env c fun xs c1 => datsK xs fun ds => Sq (ds.length ≤ sizeLine) (PF ds c1) {} := rfl
theorem x_flist : fList da env c PF = da env c fun x c1 => datK x fun d => match d with
  | .list xs => PF xs c1
  | .tuple xs => PF xs c1
  | _ => False := rfl
theorem x_fcat : fCat da db env c PF = da env c fun x c1 => datK x fun d => db env c1 fun y c2 => datK y fun e => match d, e with
  | .list xs, .list ys => Sq (xs.length + ys.length ≤ sizeLine) (PF (xs ++ ys) c2) {}
  | _, _ => False := rfl
theorem x_fsl {lo hi : DO} : fSl da lo hi env c PF = da env c fun x c1 => datK x fun d => lo env c1 fun l c2 => hi env c2 fun u c3 => match d with
  | .list ds => PF (cutD ds l u) c3
  | _ => False := rfl
theorem x_frev : fRev da env c PF = da env c fun x c1 => datK x fun d => match d with
  | .list ds => PF ds.reverse c1
  | _ => False := rfl
theorem x_frep : fRep df db env c PF = df env c fun l c1 => db env c1 fun y c2 => datK y fun e => intK e fun k => Sq (0 ≤ k ∧ k < 2 ^ 63 ∧ l.length * k.toNat ≤ sizeLine) (PF (List.replicate k.toNat l).flatten c2) {} := rfl
theorem x_df : dF df env c P = df env c fun l c' => P (.dat (.list l)) c' := rfl
theorem x_ownIx : dOwnIx i db env c P = OwnK env i fun l => db env c fun y c1 => datK y fun e => ixK l e fun z => P (.dat z) c1 := rfl
theorem x_ownLen : dOwnLen i env c P = OwnK env i fun l => P (.dat (.int l.length)) c := rfl
theorem x_repL {xs : List PyData} {k : Int} : rdRepL (.list xs) (.int k) PD = Sq (0 ≤ k ∧ k < 2 ^ 63 ∧ xs.length * k.toNat ≤ sizeLine) (PD (.list (List.replicate k.toNat xs).flatten)) {} := rfl
-- walks
theorem x_wl : wL da env c PF = da env c fun x c1 => datK x fun d => match d with
  | .list ds => PF ds c1
  | _ => False := rfl
theorem x_wt : wT da env c PF = da env c fun x c1 => datK x fun d => match d with
  | .tuple ds => PF ds c1
  | _ => False := rfl
theorem x_wr1 : wR1 dr env c PF = dr env c fun xs c1 => datsK xs fun ds => match ds with
  | [.int n] => Sq (-(2 ^ 62) ≤ n) (Sq (n < 2 ^ 62) (PF (rangeD 0 n.toNat) c1) {}) {}
  | _ => False := rfl
theorem x_wr2 : wR2 dr env c PF = dr env c fun xs c1 => datsK xs fun ds => match ds with
  | [.int i, .int j] => Sq (-(2 ^ 62) ≤ i ∧ i < 2 ^ 62 ∧ -(2 ^ 62) ≤ j ∧ j < 2 ^ 62) (PF (rangeD i (j - i).toNat) c1) {}
  | _ => False := rfl
theorem x_wzT : wZipT dr env c PF = dr env c fun xs c1 => datsK xs fun ds => match ds with
  | [.tuple xs, .tuple ys] => PF ((xs.zip ys).map fun z => .tuple [z.1, z.2]) c1
  | _ => False := rfl
theorem x_wzL : wZipL dr env c PF = dr env c fun xs c1 => datsK xs fun ds => match ds with
  | [.list xs, .list ys] => PF ((xs.zip ys).map fun z => .tuple [z.1, z.2]) c1
  | _ => False := rfl
theorem x_weT : wEnumerateT dr env c PF = dr env c fun xs c1 => datsK xs fun ds => match ds with
  | [.tuple xs] => PF (enumD xs) c1
  | _ => False := rfl
theorem x_weL : wEnumerateL dr env c PF = dr env c fun xs c1 => datsK xs fun ds => match ds with
  | [.list xs] => PF (enumD xs) c1
  | _ => False := rfl
-- targets
theorem x_gnm {x : Vl} {f : Ev → Prop} : gNm i x env f = SetK env i (some x) f := rfl
theorem x_gs0 {f : Ev → Prop} : gsNil [] env f = f env := rfl
theorem x_gsS {f : Ev → Prop} {r : List PyData} : gsCons dg dgs (d :: r) env f = dg (.dat d) env fun env' => dgs r env' f := rfl
theorem x_gtu {f : Ev → Prop} {ds : List PyData} : gTu i dgs (.dat (.tuple ds)) env f = Sq (ds.length = i) (dgs ds env f) {} := rfl
theorem x_gli {f : Ev → Prop} {ds : List PyData} : gLi i dgs (.dat (.list ds)) env f = Sq (ds.length = i) (dgs ds env f) {} := rfl
theorem x_wipe0 {env : Ev} : wipeE env [] = env := rfl
theorem x_wipeS {env : Ev} {l : List Nat} : wipeE env (i :: l) = (wipeE env l).set i none := rfl
-- ends
theorem x_sd {C A : Prop} {tg : Tg A} (h : C) : Sq C A tg = A := by
  show (C ∧ A) = A
  simp [h]
theorem x_sdY {A : Prop} {tg : Tg A} : Sq True A tg = A := by
  show (True ∧ A) = A
  simp
theorem x_flI {i : Int} : (flatP (.int i) = true) = True := by simp [flatP]
theorem x_flS' {x : Str} : (flatP (.str x) = true) = True := by simp [flatP]
theorem x_flN : (flatP .none = true) = True := by simp [flatP]
theorem x_flB {b : Bool} : (flatP (.bool b) = true) = True := by simp [flatP]
theorem x_all0 : (([] : List PyData).all flatP = true) = True := by simp
theorem x_allS {a : PyData} {l : List PyData} : ((a :: l).all flatP = true) = (flatP a = true ∧ l.all flatP = true) := by simp
theorem x_andT {p : Prop} : (True ∧ p) = p := by simp
theorem x_brT {A B : Prop} {t1 : Tg A} {t2 : Tg B} : Br true A B t1 t2 = A := by
  show (if true = true then A else B) = A
  simp
theorem x_brF {A B : Prop} {t1 : Tg A} {t2 : Tg B} : Br false A B t1 t2 = B := by
  show (if false = true then A else B) = B
  simp
theorem x_brN {b : Bool} {A B : Prop} {t1 : Tg A} {t2 : Tg B} : Br (!b) A B t1 t2 = Br b B A t2 t1 := by
  cases b <;> simp [Br]
theorem x_brO {a b : Bool} {A B : Prop} {t1 : Tg A} {t2 : Tg B} : Br (a || b) A B t1 t2 = Br a A (Br b A B t1 t2) t1 {} := by
  cases a <;> cases b <;> simp [Br]
theorem x_brA {a b : Bool} {A B : Prop} {t1 : Tg A} {t2 : Tg B} : Br (a && b) A B t1 t2 = Br a (Br b A B t1 t2) B {} t2 := by
  cases a <;> cases b <;> simp [Br]
theorem x_eqPI {a b : Int} : eqP (.int a) (.int b) = decide (a = b) := rfl
theorem x_any0 {p : PyData → Bool} : [].any p = false := rfl
theorem x_anyS {p : PyData → Bool} {a : PyData} {l : List PyData} : (a :: l).any p = (p a || l.any p) := rfl
theorem x_brP {q A B : Prop} [Decidable q] {t1 : Tg A} {t2 : Tg B} (h : q) : Br (decide q) A B t1 t2 = A := by
  simp [Br, h]
theorem x_brQ {q A B : Prop} [Decidable q] {t1 : Tg A} {t2 : Tg B} (h : ¬ q) : Br (decide q) A B t1 t2 = B := by
  simp [Br, h]
theorem x_brB {b : Bool} {A B : Prop} {t1 : Tg A} {t2 : Tg B} (h : b = true) : Br b A B t1 t2 = A := by
  simp [Br, h]
theorem x_brC {b : Bool} {A B : Prop} {t1 : Tg A} {t2 : Tg B} (h : b = false) : Br b A B t1 t2 = B := by
  simp [Br, h]
theorem x_fl0 {tg : Tg D} : FL dg s D [] env c tg = D.nx env c := rfl
theorem x_flS {a : Ev → Nat → Prop} {b : Vl → Nat → Prop} {e f : Ev → Nat → Prop} {tg : Tg (DEnds.mk a b e f)} {ds : List PyData} : FL dg s (no_index (DEnds.mk a b e f)) (d :: ds) env c tg = dg (.dat d) env fun env' => s (DEnds.mk (forL dg s (DEnds.mk a b e f) ds) b a (forL dg s (DEnds.mk a b e f) ds)) env' c := rfl
theorem x_fl {ds : List PyData} : forL dg s D ds env c = FL dg s D ds env c {} := rfl
theorem x_ll0 {acc : List PyData} {tg : Tg PF} : LL dg ta da env [] acc c PF tg = PF acc c := rfl
theorem x_llS {acc ds : List PyData} {tg : Tg PF} : LL dg ta da env (d :: ds) acc c PF tg = dg (.dat d) env fun env' => ta env' c fun b c1 => Br b (da env' c1 fun x c2 => datK x fun z => LL dg ta da env ds (acc ++ [z]) c2 PF {}) (LL dg ta da env ds acc c1 PF {}) {} {} := rfl
theorem x_s0 {x : Option Vl} {y : Option Vl} {env : Ev} : (x :: env).set 0 y = y :: env := rfl
theorem x_sS {x : Option Vl} {y : Option Vl} {env : Ev} : (x :: env).set (i + 1) y = x :: env.set i y := rfl
theorem x_g0 {x : Option Vl} {env : Ev} : (x :: env)[0]? = some x := rfl
theorem x_gS {x : Option Vl} {env : Ev} : (x :: env)[i + 1]? = env[i]? := rfl
theorem x_body {N : Nat} {args : List Vl} : bodySpec N s args c P = StK N args fun env => s { nx := fun _ c' => P (.dat .none) c', rt := P, bk := fun _ _ => False, ct := fun _ _ => False } env c := rfl
theorem x_bodyX {N : Nat} {dt : Xd → DS} {args : List Vl} {Px : Xd} : bodySpecX N dt args c P Px = StK N args fun env => dt Px { nx := fun _ c' => P (.dat .none) c', rt := P, bk := fun _ _ => False, ct := fun _ _ => False } env c := rfl
end
theorem startE_eq (N : Nat) (args : List Vl) : startE N args = args.map some ++ List.replicate (N - args.length) none := rfl
theorem cmul_l {i j : Int} (h1 : -(2 ^ 64) < i) (h2 : i < 2 ^ 64) : CMul i j := .inl ⟨h1, h2⟩
theorem cmul_r {i j : Int} (h1 : -(2 ^ 64) < j) (h2 : j < 2 ^ 64) : CMul i j := .inr ⟨h1, h2⟩
theorem cdiv_ok {i j : Int} (h1 : 0 < j) (h2 : j < 1073741824) : CDiv i j := ⟨h1, h2⟩
theorem cpow_ok {i j : Int} (h1 : 0 ≤ j) (h2 : j ≤ 1000000) (h3 : i.natAbs < 2 ^ 64) : CPow i j := ⟨h1, h2, h3⟩
/-! ### in and out of the wrappers -/
theorem cl_ok {sp : Spec} {n : Nat} {xs : List Vl} {c : Nat} {P : Vl → Nat → Prop} {t : Tg P} (h : sp xs c P) (hl : xs.length = n := by rfl) : Cl (fun xs c P => xs.length = n ∧ sp xs c P) xs c P t := ⟨hl, h⟩
theorem clV_ok {sp : Spec} {xs : List Vl} {c : Nat} {P : Vl → Nat → Prop} {t : Tg P} (h : sp xs c P) : Cl sp xs c P t := h
theorem clX_ok {sp : SpecX} {xs : List Vl} {c : Nat} {P : Vl → Nat → Prop} {Px : Xd} {t : Tg P} {t2 : Tg Px} (h : sp xs c P Px) : ClX sp xs c P Px t t2 := h
theorem br_ok {b : Bool} {A B : Prop} {t1 : Tg A} {t2 : Tg B} (h : if b = true then A else B) : Br b A B t1 t2 := h
theorem br_both {b : Bool} {A B : Prop} {t1 : Tg A} {t2 : Tg B} (h1 : b = true → A) (h2 : b = false → B) : Br b A B t1 t2 := by
  cases b
  · exact x_brF.symm ▸ h2 rfl
  · exact x_brT.symm ▸ h1 rfl
theorem br_dec {q A B : Prop} [Decidable q] {t1 : Tg A} {t2 : Tg B} (h1 : q → A) (h2 : ¬ q → B) : Br (decide q) A B t1 t2 := br_both (fun h => h1 (of_decide_eq_true h)) (fun h => h2 (of_decide_eq_false h))
theorem sd_ok {C A : Prop} {t : Tg A} (h1 : C) (h2 : A) : Sq C A t := ⟨h1, h2⟩
theorem ixk_ok {ds : List PyData} {i : Int} {z : PyData} {P : PyData → Prop} {t : Tg P} (e : atI ds i = some z) (h : P z) : IxK ds i P t := ix_ok e h
theorem ixn_ok {n : Nat} {j : Int} {k : Nat} {f : Nat → Prop} {t : Tg f} (e : ixN n j = some k) (h : f k) : IxN n j f t := ⟨k, e, h⟩
theorem fl_ok {dg : DG} {db : DS} {D : DEnds} {items : List PyData} {env : Ev} {c : Nat} {t : Tg D} (h : forL dg db D items env c) : FL dg db D items env c t := h
theorem ll_ok {dg : DG} {dt : DT} {de : DE} {env : Ev} {ds acc : List PyData} {c : Nat} {k : List PyData → Nat → Prop} {t : Tg k} (h : lcL dg dt de env ds acc c k) : LL dg dt de env ds acc c k t := h
end DL
namespace DL
open PySem PySem.Spec PyProof.Rows L2
/-! ### comprehensions and walks, run -/
theorem ll_gen {α : Type} {dg : DG} {dt : DT} {de : DE} {env : Ev} (toD : α → PyData) (p : α → Bool) (f : α → PyData) : ∀ (xs : List α) (acc : List PyData) (c : Nat) (k : List PyData → Nat → Prop) (t : Tg k),
    (∀ x ∈ xs, ∀ (A : PyData → Nat → Prop) (B : Nat → Prop), (p x = true → A (f x) c) → (p x = false → B c) → dg (.dat (toD x)) env fun env' => dt env' c fun b c1 => Br b (de env' c1 fun y c2 => datK y fun z => A z c2) (B c1) {} {}) →
    k (acc ++ (xs.filter p).map f) c → LL dg dt de env (xs.map toD) acc c k t
  | [], acc, c, k, t, _, h => by
    have h : k (acc ++ []) c := h
    rw [List.append_nil] at h
    exact h
  | x :: xs, acc, c, k, t, hx, h => by
    refine hx x List.mem_cons_self (fun z c2 => LL dg dt de env (xs.map toD) (acc ++ [z]) c2 k {}) (fun c1 => LL dg dt de env (xs.map toD) acc c1 k {}) (fun hp => ?_) (fun hp => ?_)
    · refine ll_gen toD p f xs (acc ++ [f x]) c k {} (fun y hy => hx y (List.mem_cons_of_mem _ hy)) ?_
      rw [List.filter_cons_of_pos hp] at h
      simpa using h
    · refine ll_gen toD p f xs acc c k {} (fun y hy => hx y (List.mem_cons_of_mem _ hy)) ?_
      rw [List.filter_cons_of_neg (by simp [hp])] at h
      exact h
/-- each item gives one -/
theorem ll_map {α : Type} {dg : DG} {de : DE} {env : Ev} {xs : List α} {c : Nat} {k : List PyData → Nat → Prop} {t : Tg k} (toD : α → PyData) (f : α → PyData)
    (hx : ∀ x ∈ xs, ∀ (A : PyData → Nat → Prop), A (f x) c → dg (.dat (toD x)) env fun env' => de env' c fun y c2 => datK y fun z => A z c2) (h : k (xs.map f) c) : LL dg tOn de env (xs.map toD) [] c k t := by
  refine ll_gen toD (fun _ => true) f xs [] c k t (fun x hm A B ha _ => ?_) ?_
  · have q := hx x hm A (ha rfl)
    have e : (fun env' => tOn env' c fun b c1 => Br b (de env' c1 fun y c2 => datK y fun z => A z c2) (B c1) {} {}) = fun env' => de env' c fun y c2 => datK y fun z => A z c2 := by
      funext env'
      exact x_brT (t1 := {}) (t2 := {})
    rw [e]
    exact q
  · rw [List.filter_eq_self.mpr (fun _ _ => rfl), List.nil_append]
    exact h
theorem ll_ints {dg : DG} {de : DE} {env : Ev} {xs : List Int} {c : Nat} {k : List PyData → Nat → Prop} {t : Tg k} (f : Int → PyData)
    (hx : ∀ x ∈ xs, ∀ (A : PyData → Nat → Prop), A (f x) c → dg (.dat (.int x)) env fun env' => de env' c fun y c2 => datK y fun z => A z c2) (h : k (xs.map f) c) : LL dg tOn de env (dInts xs) [] c k t := ll_map PyData.int f hx h
/-- nothing comes of it -/
theorem ll_none {dg : DG} {dt : DT} {de : DE} {env : Ev} {items : List PyData} {c : Nat} {k : List PyData → Nat → Prop} {t : Tg k} (Q : PyData → Prop) (hQ : ∀ d ∈ items, Q d)
    (hx : ∀ d, Q d → ∀ (A : PyData → Nat → Prop) (B : Nat → Prop), B c → dg (.dat d) env fun env' => dt env' c fun b c1 => Br b (de env' c1 fun y c2 => datK y fun z => A z c2) (B c1) {} {}) (h : k [] c) : LL dg dt de env items [] c k t := by
  have e : items.map id = items := by simp
  rw [← e]
  refine ll_gen id (fun _ => false) id items [] c k t (fun d hd A B _ hB => hx d (hQ d hd) A B (hB rfl)) ?_
  have e2 : items.filter (fun _ => false) = [] := List.filter_eq_nil_iff.mpr (by simp)
  rw [e2]
  exact h
theorem mem_rep {α : Type} {k : Nat} {l : List α} {d : α} (h : d ∈ (List.replicate k l).flatten) : d ∈ l ∧ 0 < k := by
  rw [List.mem_flatten] at h
  obtain ⟨m, hm, hd⟩ := h
  obtain ⟨h0, rfl⟩ := List.mem_replicate.mp hm
  exact ⟨hd, by omega⟩
theorem rep_len {α : Type} (k : Nat) (l : List α) : ((List.replicate k l).flatten).length = k * l.length := by simp
/-- over a range -/
theorem ll_range {dg : DG} {de : DE} {env : Ev} {lo : Int} {n : Nat} {c : Nat} {k : List PyData → Nat → Prop} {t : Tg k} (f : Nat → PyData)
    (hx : ∀ j, j < n → ∀ (A : PyData → Nat → Prop), A (f j) c → dg (.dat (.int (lo + (j : Int)))) env fun env' => de env' c fun y c2 => datK y fun z => A z c2) (h : k ((List.range n).map f) c) : LL dg tOn de env (rangeD lo n) [] c k t :=
  ll_map (fun j : Nat => PyData.int (lo + (j : Int))) f (fun j hj => hx j (List.mem_range.mp hj)) h
theorem ll_rangeF {dg : DG} {dt : DT} {de : DE} {env : Ev} {lo : Int} {n : Nat} {c : Nat} {k : List PyData → Nat → Prop} {t : Tg k} (p : Nat → Bool) (f : Nat → PyData)
    (hx : ∀ j, j < n → ∀ (A : PyData → Nat → Prop) (B : Nat → Prop), (p j = true → A (f j) c) → (p j = false → B c) → dg (.dat (.int (lo + (j : Int)))) env fun env' => dt env' c fun b c1 => Br b (de env' c1 fun y c2 => datK y fun z => A z c2) (B c1) {} {})
    (h : k (((List.range n).filter p).map f) c) : LL dg dt de env (rangeD lo n) [] c k t :=
  ll_gen (fun j : Nat => PyData.int (lo + (j : Int))) p f (List.range n) [] c k t (fun j hj => hx j (List.mem_range.mp hj)) (by rw [List.nil_append]; exact h)
/-- with draws: what has come so far keeps I, and the number of draws -/
theorem ll_inv {dg : DG} {de : DE} {env : Ev} (I : Nat → List PyData → Nat → Prop) : ∀ (items : List PyData) (j : Nat) (acc : List PyData) (c : Nat) (k : List PyData → Nat → Prop) (t : Tg k),
    (∀ (i : Nat) (d : PyData) (acc : List PyData) (c : Nat) (A : PyData → Nat → Prop), items[i]? = some d → I (j + i) acc c → (∀ z c', I (j + i + 1) (acc ++ [z]) c' → A z c') → dg (.dat d) env fun env' => de env' c fun y c2 => datK y fun z => A z c2) →
    I j acc c → (∀ out c', I (j + items.length) out c' → k out c') → LL dg tOn de env items acc c k t
  | [], j, acc, c, k, t, _, h0, hk => hk acc c h0
  | d :: ds, j, acc, c, k, t, hs, h0, hk => by
    have q := hs 0 d acc c (fun z c2 => LL dg tOn de env ds (acc ++ [z]) c2 k {}) rfl h0 (fun z c' hz => ll_inv I ds (j + 1) (acc ++ [z]) c' k {} (fun i d' acc' c'' A hd hI hA => ?_) hz (fun out c'' ho => hk out c'' ?_))
    · have e : (fun env' => tOn env' c fun b c1 => Br b (de env' c1 fun y c2 => datK y fun z => LL dg tOn de env ds (acc ++ [z]) c2 k {}) (LL dg tOn de env ds acc c1 k {}) {} {}) = fun env' => de env' c fun y c2 => datK y fun z => LL dg tOn de env ds (acc ++ [z]) c2 k {} := by
        funext env'
        exact x_brT (t1 := {}) (t2 := {})
      show dg (.dat d) env fun env' => tOn env' c fun b c1 => Br b (de env' c1 fun y c2 => datK y fun z => LL dg tOn de env ds (acc ++ [z]) c2 k {}) (LL dg tOn de env ds acc c1 k {}) {} {}
      rw [e]
      exact q
    · have e : j + 1 + i = j + (i + 1) := by omega
      rw [e] at hI hA
      exact hs (i + 1) d' acc' c'' A hd hI (fun z c3 hz => hA z c3 hz)
    · have e : j + (d :: ds).length = j + 1 + ds.length := by simp; omega
      rw [e]
      exact ho
theorem fl_inv {dg : DG} {db : DS} {a : Ev → Nat → Prop} {b : Vl → Nat → Prop} {e f : Ev → Nat → Prop} {items : List PyData} {env : Ev} {c : Nat} {t : Tg (DEnds.mk a b e f)} (I : Nat → Ev → Nat → Prop)
    (step : ∀ (j : Nat) (d : PyData) (env : Ev) (c : Nat) (k : Ev → Nat → Prop), items[j]? = some d → I j env c → (∀ env' c', I (j + 1) env' c' → k env' c') → dg (.dat d) env fun env' => db (DEnds.mk k b a k) env' c)
    (h0 : I 0 env c) (hk : ∀ env c, I items.length env c → a env c) : FL dg db (DEnds.mk a b e f) items env c t := fl_ok (forL_inv I step h0 hk)
/-- over a list of which only a property is known -/
theorem fl_all {dg : DG} {db : DS} {a : Ev → Nat → Prop} {b : Vl → Nat → Prop} {e f : Ev → Nat → Prop} {items : List PyData} {env : Ev} {c : Nat} {t : Tg (DEnds.mk a b e f)} (I : Ev → Nat → Prop) (Q : PyData → Prop) (hQ : ∀ d ∈ items, Q d)
    (step : ∀ (d : PyData) (env : Ev) (c : Nat) (k : Ev → Nat → Prop), Q d → I env c → (∀ env' c', I env' c' → k env' c') → dg (.dat d) env fun env' => db (DEnds.mk k b a k) env' c)
    (h0 : I env c) (hk : ∀ env c, I env c → a env c) : FL dg db (DEnds.mk a b e f) items env c t :=
  fl_inv (fun _ env c => I env c) (fun j d env c k hd hI hk => step d env c k (hQ d (List.mem_of_getElem? hd)) hI hk) h0 hk
theorem lit_nil {Q : PyData → Prop} : ∀ d ∈ ([] : List PyData), Q d := fun d h => by simp at h
theorem lit_cons {Q : PyData → Prop} {x : PyData} {l : List PyData} (h1 : Q x) (h2 : ∀ d ∈ l, Q d) : ∀ d ∈ x :: l, Q d := fun d hd => by
  rcases List.mem_cons.mp hd with rfl | hd
  · exact h1
  · exact h2 d hd
/-! a walk whose body changes some slots only -/
theorem set_own (env : Ev) (i : Nat) : List.set env i ((env[i]?).getD none) = env := by
  by_cases h : i < env.length
  · rw [List.getElem?_eq_getElem h]
    simp
  · rw [List.set_eq_of_length_le (by omega)]
theorem keep1_eq {env : Ev} {i : Nat} : env = List.set env i ((env[i]?).getD none) := (set_own env i).symm
theorem keep2_eq {env : Ev} {i j : Nat} : env = (List.set env i ((env[i]?).getD none)).set j ((env[j]?).getD none) := by rw [set_own, set_own]
theorem keep3_eq {env : Ev} {i j l : Nat} : env = ((List.set env i ((env[i]?).getD none)).set j ((env[j]?).getD none)).set l ((env[l]?).getD none) := by rw [set_own, set_own, set_own]
theorem keep4_eq {env : Ev} {i j l m : Nat} : env = (((List.set env i ((env[i]?).getD none)).set j ((env[j]?).getD none)).set l ((env[l]?).getD none)).set m ((env[m]?).getD none) := by rw [set_own, set_own, set_own, set_own]
theorem fl_keep1 {dg : DG} {db : DS} {a : Ev → Nat → Prop} {b : Vl → Nat → Prop} {u f : Ev → Nat → Prop} {items : List PyData} {env : Ev} {c : Nat} {t : Tg (DEnds.mk a b u f)} (i : Nat) (Q : PyData → Prop) (C : Nat → Prop) (hQ : ∀ d ∈ items, Q d) (h0 : C c)
    (step : ∀ (d : PyData) (x0 : Option Vl) (c' : Nat) (k : Ev → Nat → Prop), Q d → C c' → (∀ (x0' : Option Vl) (c'' : Nat), C c'' → SetK env i x0' fun e0 => k e0 c'') → SetK env i x0 fun e0 => dg (.dat d) e0 fun env' => db (DEnds.mk k b a k) env' c')
    (hk : ∀ (x0 : Option Vl) (c' : Nat), C c' → SetK env i x0 fun e0 => a e0 c') : FL dg db (DEnds.mk a b u f) items env c t := by
  have key : ∃ (x0 : Option Vl), env = (List.set env i x0) := ⟨(env[i]?).getD none, keep1_eq⟩
  obtain ⟨x0, e⟩ := key
  refine fl_inv (fun _ env' c' => C c' ∧ ∃ x0', env' = (List.set env i x0')) (fun q d env' c' k hd hI hk' => ?_) ⟨h0, x0, e⟩ (fun env' c' hI => ?_)
  · obtain ⟨hC, x0', rfl⟩ := hI
    exact step d x0' c' k (hQ d (List.mem_of_getElem? hd)) hC (fun x0 c'' hC' => hk' _ _ ⟨hC', x0, rfl⟩)
  · obtain ⟨hC, x0', rfl⟩ := hI
    exact hk x0' c' hC
theorem fl_keep2 {dg : DG} {db : DS} {a : Ev → Nat → Prop} {b : Vl → Nat → Prop} {u f : Ev → Nat → Prop} {items : List PyData} {env : Ev} {c : Nat} {t : Tg (DEnds.mk a b u f)} (i j : Nat) (Q : PyData → Prop) (C : Nat → Prop) (hQ : ∀ d ∈ items, Q d) (h0 : C c)
    (step : ∀ (d : PyData) (x0 x1 : Option Vl) (c' : Nat) (k : Ev → Nat → Prop), Q d → C c' → (∀ (x0' x1' : Option Vl) (c'' : Nat), C c'' → SetK env i x0' fun e0 => SetK e0 j x1' fun e1 => k e1 c'') → SetK env i x0 fun e0 => SetK e0 j x1 fun e1 => dg (.dat d) e1 fun env' => db (DEnds.mk k b a k) env' c')
    (hk : ∀ (x0 x1 : Option Vl) (c' : Nat), C c' → SetK env i x0 fun e0 => SetK e0 j x1 fun e1 => a e1 c') : FL dg db (DEnds.mk a b u f) items env c t := by
  have key : ∃ (x0 x1 : Option Vl), env = ((List.set env i x0).set j x1) := ⟨(env[i]?).getD none, (env[j]?).getD none, keep2_eq⟩
  obtain ⟨x0, x1, e⟩ := key
  refine fl_inv (fun _ env' c' => C c' ∧ ∃ x0' x1', env' = ((List.set env i x0').set j x1')) (fun q d env' c' k hd hI hk' => ?_) ⟨h0, x0, x1, e⟩ (fun env' c' hI => ?_)
  · obtain ⟨hC, x0', x1', rfl⟩ := hI
    exact step d x0' x1' c' k (hQ d (List.mem_of_getElem? hd)) hC (fun x0 x1 c'' hC' => hk' _ _ ⟨hC', x0, x1, rfl⟩)
  · obtain ⟨hC, x0', x1', rfl⟩ := hI
    exact hk x0' x1' c' hC
theorem fl_keep3 {dg : DG} {db : DS} {a : Ev → Nat → Prop} {b : Vl → Nat → Prop} {u f : Ev → Nat → Prop} {items : List PyData} {env : Ev} {c : Nat} {t : Tg (DEnds.mk a b u f)} (i j l : Nat) (Q : PyData → Prop) (C : Nat → Prop) (hQ : ∀ d ∈ items, Q d) (h0 : C c)
    (step : ∀ (d : PyData) (x0 x1 x2 : Option Vl) (c' : Nat) (k : Ev → Nat → Prop), Q d → C c' → (∀ (x0' x1' x2' : Option Vl) (c'' : Nat), C c'' → SetK env i x0' fun e0 => SetK e0 j x1' fun e1 => SetK e1 l x2' fun e2 => k e2 c'') → SetK env i x0 fun e0 => SetK e0 j x1 fun e1 => SetK e1 l x2 fun e2 => dg (.dat d) e2 fun env' => db (DEnds.mk k b a k) env' c')
    (hk : ∀ (x0 x1 x2 : Option Vl) (c' : Nat), C c' → SetK env i x0 fun e0 => SetK e0 j x1 fun e1 => SetK e1 l x2 fun e2 => a e2 c') : FL dg db (DEnds.mk a b u f) items env c t := by
  have key : ∃ (x0 x1 x2 : Option Vl), env = (((List.set env i x0).set j x1).set l x2) := ⟨(env[i]?).getD none, (env[j]?).getD none, (env[l]?).getD none, keep3_eq⟩
  obtain ⟨x0, x1, x2, e⟩ := key
  refine fl_inv (fun _ env' c' => C c' ∧ ∃ x0' x1' x2', env' = (((List.set env i x0').set j x1').set l x2')) (fun q d env' c' k hd hI hk' => ?_) ⟨h0, x0, x1, x2, e⟩ (fun env' c' hI => ?_)
  · obtain ⟨hC, x0', x1', x2', rfl⟩ := hI
    exact step d x0' x1' x2' c' k (hQ d (List.mem_of_getElem? hd)) hC (fun x0 x1 x2 c'' hC' => hk' _ _ ⟨hC', x0, x1, x2, rfl⟩)
  · obtain ⟨hC, x0', x1', x2', rfl⟩ := hI
    exact hk x0' x1' x2' c' hC
theorem fl_keep4 {dg : DG} {db : DS} {a : Ev → Nat → Prop} {b : Vl → Nat → Prop} {u f : Ev → Nat → Prop} {items : List PyData} {env : Ev} {c : Nat} {t : Tg (DEnds.mk a b u f)} (i j l m : Nat) (Q : PyData → Prop) (C : Nat → Prop) (hQ : ∀ d ∈ items, Q d) (h0 : C c)
    (step : ∀ (d : PyData) (x0 x1 x2 x3 : Option Vl) (c' : Nat) (k : Ev → Nat → Prop), Q d → C c' → (∀ (x0' x1' x2' x3' : Option Vl) (c'' : Nat), C c'' → SetK env i x0' fun e0 => SetK e0 j x1' fun e1 => SetK e1 l x2' fun e2 => SetK e2 m x3' fun e3 => k e3 c'') → SetK env i x0 fun e0 => SetK e0 j x1 fun e1 => SetK e1 l x2 fun e2 => SetK e2 m x3 fun e3 => dg (.dat d) e3 fun env' => db (DEnds.mk k b a k) env' c')
    (hk : ∀ (x0 x1 x2 x3 : Option Vl) (c' : Nat), C c' → SetK env i x0 fun e0 => SetK e0 j x1 fun e1 => SetK e1 l x2 fun e2 => SetK e2 m x3 fun e3 => a e3 c') : FL dg db (DEnds.mk a b u f) items env c t := by
  have key : ∃ (x0 x1 x2 x3 : Option Vl), env = ((((List.set env i x0).set j x1).set l x2).set m x3) := ⟨(env[i]?).getD none, (env[j]?).getD none, (env[l]?).getD none, (env[m]?).getD none, keep4_eq⟩
  obtain ⟨x0, x1, x2, x3, e⟩ := key
  refine fl_inv (fun _ env' c' => C c' ∧ ∃ x0' x1' x2' x3', env' = ((((List.set env i x0').set j x1').set l x2').set m x3')) (fun q d env' c' k hd hI hk' => ?_) ⟨h0, x0, x1, x2, x3, e⟩ (fun env' c' hI => ?_)
  · obtain ⟨hC, x0', x1', x2', x3', rfl⟩ := hI
    exact step d x0' x1' x2' x3' c' k (hQ d (List.mem_of_getElem? hd)) hC (fun x0 x1 x2 x3 c'' hC' => hk' _ _ ⟨hC', x0, x1, x2, x3, rfl⟩)
  · obtain ⟨hC, x0', x1', x2', x3', rfl⟩ := hI
    exact hk x0' x1' x2' x3' c' hC
/-- a draw -/
theorem draw_ok {m : Int} {c : Nat} {P : Vl → Nat → Prop} {t : Tg P} (h0 : 0 < m) (h1 : m < 2 ^ 200) (hc : c < 10000000) (h : ∀ r : Int, 0 ≤ r → r < m → P (.dat (.int r)) (c + 1)) : Cl (fun xs c P => xs.length = 2 ∧ drawSpec xs c P) [.deck, .dat (.int m)] c P t := ⟨rfl, h0, h1, by omega, h⟩
theorem plain_start (N : Nat) (d : PyData) : ∀ x ∈ startE N [.dat d], plain x := fun x hx => by
  simp only [startE, List.map_cons, List.map_nil, List.mem_append, List.mem_singleton, List.mem_replicate] at hx
  rcases hx with rfl | ⟨_, rfl⟩ <;> trivial
/-- the law's first row: the deck -/
theorem law_start {N i : Nat} {t : DS} {ns : List Int} {P : Vl → Nat → Prop} (h63 : ns.length ≤ 63)
    (h : StK N [.dat (.list (ns.map PyData.int))] fun env => SetK env i (some .deck) fun env' => t { nx := fun _ c' => P (.dat .none) c', rt := P, bk := fun _ _ => False, ct := fun _ _ => False } env' 0) :
    bodySpec N (sSeq (sDeck i 0) t) [.dat (.list (ns.map PyData.int))] 0 P := ⟨⟨ns, h63, rfl⟩, plain_start N _, h⟩
/-- a list that is written out, by a drawn or counted place -/
theorem at_lit {ds : List PyData} {i : Int} (h0 : 0 ≤ i) (h1 : i < ds.length) : ∃ k : Nat, ∃ hk : k < ds.length, i = (k : Int) ∧ atI ds i = some ds[k] := by
  obtain ⟨k, rfl⟩ := Int.eq_ofNat_of_zero_le h0
  have hk : k < ds.length := by omega
  exact ⟨k, hk, rfl, atI_nat (List.getElem?_eq_getElem hk)⟩
/-- a list of ints that is written out, by a drawn or counted place: all that is known of what comes is p -/
theorem ixk_int (xs : List Int) (p : Int → Prop) {i : Int} {P : PyData → Prop} {t : Tg P} (h0 : 0 ≤ i) (h1 : i < xs.length) (hp : ∀ x ∈ xs, p x) (h : ∀ x, p x → P (.int x)) : IxK (dInts xs) i P t := by
  obtain ⟨k, hk, _, e⟩ := at_lit (ds := dInts xs) h0 (by simpa [dInts] using h1)
  refine ixk_ok e ?_
  have : (dInts xs)[k] = .int (xs[k]'(by simpa [dInts] using hk)) := by simp [dInts]
  rw [this]
  exact h _ (hp _ (List.getElem_mem _))
end DL
set_option maxHeartbeats 2000000
/-! list(range(n)) of one's own, a copy of one's own list, one's own list against another -/
namespace DL
open PySem PySem.Spec PyProof.Rows L2
def fRg (da : DE) : DF := fun env c P => da env c fun x c1 => datK x fun d => match d with
  | .int n => 0 ≤ n ∧ n ≤ 16777216 ∧ P (rangeD 0 n.toNat) c1
  | _ => False
def dOwnLst (i : Nat) : DE := fun env c P => match env[i]? with
  | some (some (.own l)) => P (.dat (.list l)) c
  | _ => False
def dOwnNe (i : Nat) (db : DE) : DE := fun env c P => match env[i]? with
  | some (some (.own l)) => db env c fun y c1 => datK y fun e => rdNe (.list l) e fun z => P (.dat z) c1
  | _ => False
section
variable {X : Cx} {E : En} {a b : Expr} {da db : DE} {p1 p2 pos pos2 : Pos}
theorem df_lstRg (hmr : X.mg "range" = none) (hmt : X.mg "list" = none) (ha : DPE X E a da) (hc : X.calm = true := by rfl) (hgr : Gl X "range" := by rfl) (hgt : Gl X "list" := by rfl)
    (na : starEach [a] X.env = (false, eval a X.env) :: starEach [] X.env := by rfl)
    (nb : starEach [.Call (.Name "range" p1) [a] [] pos] X.env = (false, eval (.Call (.Name "range" p1) [a] [] pos) X.env) :: starEach [] X.env := by rfl) :
    DPF X E (.Call (.Name "list" p2) [.Call (.Name "range" p1) [a] [] pos] [] pos2) (fRg da) := by
  refine pe_imp (pe_listRg hc hgt hmt (prg_1 hgr hmr ha na) nb) fun σ H Q h => ?_
  obtain ⟨g, env, c, P, rel, q, k⟩ := h
  refine ⟨g, env, c, _, rel, q, fun x c1 g1 H1 v p1 m1 r1 o1 f1 => ?_⟩
  cases x with
  | deck => exact p1.elim
  | exc _ => exact p1.elim
  | own l => exact p1.elim
  | dat d =>
    cases d <;> try exact p1.elim
    rename_i n
    have o1 : Dp X.K g1.F v (.int n) := o1
    obtain ⟨h0, h1, hP⟩ := p1
    cases o1
    exact ⟨n, rfl, .of_le (Int.le_refl _) h1 (by decide) h0, fun b hb => fresh_end k hP m1 r1 (dpAll_rg n) b hb⟩
theorem de_ownLst (i : Nat) {x : Str} (hm : X.mg "list" = none) (hN : X.N[i]? = some x := by rfl) (hv : Vis X.env.scope x := by first | exact Or.inl rfl | exact Or.inr (Or.inl rfl) | exact Or.inr (Or.inr rfl)) (h1 : (x == ("__debug__" : Str)) = false := by decide)
    (h2 : (x == ("__classdict__" : Str)) = false := by decide) (hg : Gl X "list" := by rfl)
    (he : starEach [.Name x p1] X.env = (false, eval (.Name x p1) X.env) :: starEach [] X.env := by rfl) (hpl : (backTo pos (starEach [] X.env)).any (·.1) = false := by rfl) :
    DPE X E (.Call (.Name "list" p2) [.Name x p1] [] pos) (dOwnLst i) := by
  refine pe_imp (pe_callTy call_list_of hg hm (by decide +kernel) (pa_cons (pe_var hN hv h1 h2) pa_nil he) (by decide) (by decide) he hpl) fun σ H Q h => ?_
  obtain ⟨g, env, c, P, rel, q, k⟩ := h
  unfold dOwnLst at q
  split at q
  · rename_i l e
    obtain ⟨v, e1, p, xs, rfl, h3, h4, h5, h6⟩ := rel.sl i _ e
    refine ⟨_, e1, _, _, rfl, .inl (.of h5), fun b hb => ?_⟩
    obtain ⟨r2, m2⟩ := rel.new (.lst xs) hb
    exact k _ _ _ _ _ q m2 r2 (Dp.lst (.of upd_same) (dpAll_mono m2.f h6)) trivial
  · exact q.elim
theorem ownNe_up {K : PySem.W.Frag} {i : Nat} {σ : L2.St} {H : Hp} {Q : VK} (h : up K E (dOwnNe i db) σ H Q) : tOp (rNeD K) (tVar i) (up K E db) σ H Q := by
  obtain ⟨g, env, c, P, rel, q, k⟩ := h
  unfold dOwnNe at q
  split at q
  · rename_i l e
    obtain ⟨v, e1, p, xs, rfl, h3, h4, h5, h6⟩ := rel.sl i _ e
    refine ⟨_, e1, g, env, c, _, rel, q, fun y c1 g1 H1 w p1 m1 r1 o1 f1 => ?_⟩
    cases y with
    | deck => exact p1.elim
    | exc _ => exact p1.elim
    | own l => exact p1.elim
    | dat d =>
      have o1 : Dp K g1.F w d := o1
      have p1 : SeqAt.shaped (.list l) = true ∧ SeqAt.shaped d = true ∧ P (.dat (.bool (!PyData.eqv (.list l) d))) c1 := by
        have p1 : rdNe (.list l) d fun z => P (.dat z) c1 := p1
        unfold rdNe rdEq at p1
        cases d <;> exact p1
      have h5' := m1.fr p _ h5 h4
      have h6' := dpAll_mono m1.f h6
      have D1 : Dp K H1 (.ref p) (.list l) := .lst (.of h5') (dpAll_mono r1.ex h6')
      exact ⟨_, _, dp_l2 D1 (PyData.hasDict_of_canLay _ (SeqAt.canLay_of_shaped p1.1)), dp_l2 (dp_mono r1.ex o1) (PyData.hasDict_of_canLay _ (SeqAt.canLay_of_shaped p1.2.1)), p1.1, p1.2.1, k _ c1 g1 H1 _ p1.2.2 m1 r1 (.bl _) trivial⟩
  · exact q.elim
theorem dt_ownNe (i : Nat) {x : Str} {k : Nat} (hr : Room k X.A) (hb : DPE X E b db) (hN : X.N[i]? = some x := by rfl) (hv : Vis X.env.scope x := by first | exact Or.inl rfl | exact Or.inr (Or.inl rfl) | exact Or.inr (Or.inr rfl)) (h1 : (x == ("__debug__" : Str)) = false := by decide)
    (h2 : (x == ("__classdict__" : Str)) = false := by decide) (hm : behindInMarks .NotEq b = false := by first | exact nobehind _ (by decide) (by decide) | rfl) : DPT X E (.Compare (.Name x p1) [.NotEq] [b] pos) (tVal (dOwnNe i db)) :=
  pt_imp (pt_cmpR (op_neD hr.units) (pe_var hN hv h1 h2) hb hm) fun _ _ _ h => tB_up (fun _ _ _ h => ownNe_up h) h
end
section
variable {env : Ev} {c : Nat} {P : Vl → Nat → Prop} {PF : List PyData → Nat → Prop} {da db : DE} {i : Nat}
theorem x_frg : fRg da env c PF = da env c fun x c1 => datK x fun d => match d with
  | .int n => Sq (0 ≤ n) (Sq (n ≤ 16777216) (PF (rangeD 0 n.toNat) c1) {}) {}
  | _ => False := rfl
theorem x_ownLst : dOwnLst i env c P = OwnK env i fun l => P (.dat (.list l)) c := rfl
theorem x_ownNe : dOwnNe i db env c P = OwnK env i fun l => db env c fun y c1 => datK y fun e => rdNe (.list l) e fun z => P (.dat z) c1 := rfl
end
end DL
set_option maxHeartbeats 2000000
/-! x.extend([..]), range(a, b, -1) -/
namespace DL
open PySem PySem.Spec PyProof.Rows L2
def sExt (i : Nat) (dt : DF) : DS := fun D env c => match env[i]? with
  | some (some (.own l)) => dt env c fun m c1 => l.length + m.length ≤ sizeLine ∧ D.nx (env.set i (some (.own (l ++ m)))) c1
  | _ => False
def downD (hi : Int) (n : Nat) : List PyData := (List.range n).map fun (k : Nat) => PyData.int (hi - k)
def wR3 (da : DA) : DI := fun env c P => da env c fun xs c1 => datsK xs fun ds => match ds with
  | [.int i, .int j, .int k] => (k = -1 ∧ -(2 ^ 62) ≤ i ∧ i < 2 ^ 62 ∧ -(2 ^ 62) ≤ j ∧ j < 2 ^ 62) ∧ P (downD i (i - j).toNat) c1
  | _ => False
def dOwnEq (i : Nat) (db : DE) : DE := fun env c P => match env[i]? with
  | some (some (.own l)) => db env c fun y c1 => datK y fun e => rdEq (.list l) e fun z => P (.dat z) c1
  | _ => False
theorem downD_len (hi : Int) (n : Nat) : (downD hi n).length = n := by simp [downD]
theorem walkD_down {K : PySem.W.Frag} {g : Gh} {hi : Int} {n : Nat} : WalkD K g (Itc hi (-1) n) (downD hi n) := by
  refine ⟨_, _, by rw [downD_len]; exact walk_rangeC, fun _ _ _ _ => trivial, fun i H x H' d e y => ?_⟩
  obtain ⟨rfl, rfl⟩ := y
  unfold downD at e
  rw [List.getElem?_map] at e
  by_cases hi2 : i < n
  · rw [List.getElem?_range hi2] at e
    cases e
    have z : hi + (i : Int) * (-1) = hi - (i : Int) := by omega
    refine .inl ⟨rfl, ?_⟩
    show Dp K g.F (V.int (hi + (i : Int) * (-1))) (PyData.int (hi - (i : Int)))
    rw [z]
    exact .int _
  · rw [List.getElem?_eq_none (by simpa using hi2)] at e
    cases e
section
variable {X : Cx} {E : En} {tg a b d : Expr} {da db : DE} {dr : DA} {dt : DF} {pos p : Pos}
theorem dw_r3 (ha : DPA X E [a, b, d] dr) (hm : X.mg "range" = none) (hg : Gl X "range" := by rfl) (hs : starEach [a, b, d] X.env = (false, eval a X.env) :: starEach [b, d] X.env := by rfl) (hpl : (backTo pos (starEach [b, d] X.env)).any (·.1) = false := by rfl) :
    DPI X E tg (.Call (.Name "range" p) [a, b, d] [] pos) (wR3 dr) := by
  refine pi_imp (pi_range3 hg hm ha hs hpl) fun σ H R h => ?_
  obtain ⟨g, env, c, P, rel, q, k⟩ := h
  refine ⟨g, env, c, _, rel, q, fun xs c1 g1 H1 vs p1 m1 r1 o1 f1 => ?_⟩
  obtain ⟨ds, h1, h2⟩ := datsK_all o1 p1
  split at h1
  · cases h2 with
    | cons h3 t =>
      cases t with
      | cons h4 t =>
        cases t with
        | cons h5 t =>
          cases t
          obtain ⟨⟨rfl, b1, b2, b3, b4⟩, q1⟩ := h1
          exact ⟨_, _, _, _, by rw [dp_int h3, dp_int h4, dp_int h5], RgC.neg b1 b2 b3 b4, k _ c1 g1 H1 _ q1 m1 r1 walkD_down⟩
  · exact h1.elim
theorem ownEq_up {K : PySem.W.Frag} {i : Nat} {σ : L2.St} {H : Hp} {Q : VK} (h : up K E (dOwnEq i db) σ H Q) : tOp (rEqD K) (tVar i) (up K E db) σ H Q := by
  obtain ⟨g, env, c, P, rel, q, k⟩ := h
  unfold dOwnEq at q
  split at q
  · rename_i l e
    obtain ⟨v, e1, p, xs, rfl, h3, h4, h5, h6⟩ := rel.sl i _ e
    refine ⟨_, e1, g, env, c, _, rel, q, fun y c1 g1 H1 w p1 m1 r1 o1 f1 => ?_⟩
    cases y with
    | deck => exact p1.elim
    | exc _ => exact p1.elim
    | own l => exact p1.elim
    | dat d =>
      have o1 : Dp K g1.F w d := o1
      have p1 : SeqAt.shaped (.list l) = true ∧ SeqAt.shaped d = true ∧ P (.dat (.bool (PyData.eqv (.list l) d))) c1 := by
        have p1 : rdEq (.list l) d fun z => P (.dat z) c1 := p1
        unfold rdEq at p1
        cases d <;> exact p1
      have h5' := m1.fr p _ h5 h4
      have h6' := dpAll_mono m1.f h6
      have D1 : Dp K H1 (.ref p) (.list l) := .lst (.of h5') (dpAll_mono r1.ex h6')
      exact ⟨_, _, dp_l2 D1 (PyData.hasDict_of_canLay _ (SeqAt.canLay_of_shaped p1.1)), dp_l2 (dp_mono r1.ex o1) (PyData.hasDict_of_canLay _ (SeqAt.canLay_of_shaped p1.2.1)), p1.1, p1.2.1, k _ c1 g1 H1 _ p1.2.2 m1 r1 (.bl _) trivial⟩
  · exact q.elim
theorem dt_ownEq (i : Nat) {x : Str} {k : Nat} (hr : Room k X.A) (hb : DPE X E b db) (hN : X.N[i]? = some x := by rfl) (hv : Vis X.env.scope x := by first | exact Or.inl rfl | exact Or.inr (Or.inl rfl) | exact Or.inr (Or.inr rfl)) (h1 : (x == ("__debug__" : Str)) = false := by decide)
    (h2 : (x == ("__classdict__" : Str)) = false := by decide) (hm : behindInMarks .Eq b = false := by first | exact nobehind _ (by decide) (by decide) | rfl) : DPT X E (.Compare (.Name x p) [.Eq] [b] pos) (tVal (dOwnEq i db)) :=
  pt_imp (pt_cmpR (op_eqD hr.units) (pe_var hN hv h1 h2) hb hm) fun _ _ _ h => tB_up (fun _ _ _ h => ownEq_up h) h
/-- x.extend([..]) -/
theorem ds_ext (i : Nat) {x : Str} {p1 p2 p3 : Pos} (h : DPF X E a dt) (hN : X.N[i]? = some x := by rfl) (hv : Vis X.env.scope x := by first | exact Or.inl rfl | exact Or.inr (Or.inl rfl) | exact Or.inr (Or.inr rfl)) (h1 : (x == ("__debug__" : Str)) = false := by decide)
    (h2 : (x == ("__classdict__" : Str)) = false := by decide) (hb : attributeBase (.Name x p1) "extend" X.env (eval (.Name x p1) X.env) = eval (.Name x p1) X.env := by rfl)
    (hfew : ((backTo p3 (starEach [a] X.env)).all (fun x => !x.1) && (backToKw p3 (keywordEach [] X.env)).all (fun x => x.1.isSome) && decide ([a].length + ([] : List Keyword).length + (if ([] : List Keyword).isEmpty then 0 else 1) < 30)) = true := by rfl)
    (hline : (p2.endLine == p3.line) = true := by rfl) (he : starEach [a] X.env = (false, eval a X.env) :: starEach [] X.env := by rfl) (hpl : (backTo p3 (starEach [] X.env)).any (·.1) = false := by rfl)
    (hs : swapsWith (.Call (.Attribute (.Name x p1) "extend" p2) [a] [] p3) none pos.line X.env = pure false := by rfl) :
    DPS X E (.Expr (.Call (.Attribute (.Name x p1) "extend" p2) [a] [] p3) pos) (sExt i dt) := by
  refine ps_imp (ps_expr (pe_bm PySem.F.plainAttrs_list PySem.F.slot_list_extend PySem.F.type_list_extend mt_extend (pe_var hN hv h1 h2) (pa_cons h pa_nil he) hb hfew hline he hpl) hs) fun D σ H h => ?_
  obtain ⟨g, env, c, P, rel, q, k, _⟩ := h
  unfold sExt at q
  split at q
  · rename_i l e
    obtain ⟨v, e1, p, xs, rfl, h3, h4, h5, h6⟩ := rel.sl i _ e
    refine ⟨_, e1, .inl ⟨rfl, _, .of h5⟩, g, env, c, _, rel, q, fun m c1 g1 H1 p' zs p1 m1 r1 hp hp' hF ha => ?_⟩
    have h5' := m1.fr p _ h5 h4
    exact ⟨p, p', xs, zs, rfl, rfl, h5', hp', by rw [DpAll.len h6, DpAll.len ha]; exact p1.1, k _ c1 g1 _ _ p1.2 m1.f (r1.writeOwn i e e1 (DpAll.app (dpAll_mono m1.f h6) ha))⟩
  · exact q.elim
end
theorem x_ownEq {db : DE} {env : Ev} {c : Nat} {P : Vl → Nat → Prop} {i : Nat} : dOwnEq i db env c P = OwnK env i fun l => db env c fun y c1 => datK y fun e => rdEq (.list l) e fun z => P (.dat z) c1 := rfl
section
variable {env : Ev} {c : Nat} {PF : List PyData → Nat → Prop} {da : DA} {dt : DF} {i : Nat} {D : DEnds}
theorem x_ext : sExt i dt D env c = OwnK env i fun l => dt env c fun m c1 => Sq (l.length + m.length ≤ sizeLine) (SetK env i (some (.own (l ++ m))) fun env' => D.nx env' c1) {} := rfl
theorem x_wr3 : wR3 da env c PF = da env c fun xs c1 => datsK xs fun ds => match ds with
  | [.int i, .int j, .int k] => Sq (k = -1 ∧ -(2 ^ 62) ≤ i ∧ i < 2 ^ 62 ∧ -(2 ^ 62) ≤ j ∧ j < 2 ^ 62) (PF (downD i (i - j).toNat) c1) {}
  | _ => False := rfl
end
end DL
set_option maxHeartbeats 2000000
/-! sep.join(xs) of texts; f-strings of texts and ints -/
namespace DL
open PySem PySem.Spec PyProof.Rows L2
section
variable {K : PySem.W.Frag} {E : En}
theorem join_up {da db : DE} {σ : L2.St} {H : Hp} {Q : VK} (h : up K E (dJoin da db) σ H Q) :
    tM1 (fun x xs H Q => ∃ a p, ∃ ys : List Str, x = .str a ∧ xs = [.ref p] ∧ (SqL K H p (ys.map V.str) ∨ SqT K H p (ys.map V.str)) ∧ (ys.map (·.length)).sum + ys.length * a.length ≤ 16777216 ∧ Q (.str (Txt.join a ys)) H) (up K E da) (up K E db) σ H Q := by
  obtain ⟨g, env, c, P, rel, q, k⟩ := h
  refine ⟨g, env, c, _, rel, q, fun x c1 g1 H1 v p1 m1 r1 o1 f1 => ?_⟩
  cases x with
  | deck => exact p1.elim
  | exc _ => exact p1.elim
  | own l => exact p1.elim
  | dat d =>
    cases d with
    | str s =>
      refine ⟨⟨s, dp_str o1⟩, g1, env, c1, _, r1, p1, fun y c2 g2 H2 u p2 m2 r2 o2 f2 => ?_⟩
      cases y with
      | deck => exact p2.elim
      | exc _ => exact p2.elim
      | own l => exact p2.elim
      | dat e =>
        cases e with
        | list ds =>
          obtain ⟨ys, e1, hl, pz⟩ := p2
          cases o2 with
          | lst hs ha =>
            have ex := strsOf_dp e1 ha
            subst ex
            exact ⟨s, _, ys, dp_str o1, rfl, .inl (r2.ex.seq hs), hl, k _ c2 g2 H2 _ pz (m1.trans m2) r2 (.str _) trivial⟩
        | none => exact p2.elim
        | bool _ => exact p2.elim
        | int _ => exact p2.elim
        | str _ => exact p2.elim
        | tuple _ => exact p2.elim
        | dict _ => exact p2.elim
    | none => exact p1.elim
    | bool _ => exact p1.elim
    | int _ => exact p1.elim
    | list _ => exact p1.elim
    | tuple _ => exact p1.elim
    | dict _ => exact p1.elim
/-- a field of an f-string -/
def dFmt (d : DE) : DE := fun env c P => d env c fun x c1 => datK x fun z => match z with
  | .str y => y.length ≤ sizeLine ∧ P (.dat (.str y)) c1
  | .int i => i.natAbs.log2 < 1920 ∧ P (.dat (.str (toString i))) c1
  | _ => False
def dFs : List DE → Str → DE
  | [], acc => fun env c P => P (.dat (.str acc)) c
  | d :: ds, acc => fun env c P => d env c fun x c1 => datK x fun z => match z with
    | .str y => (acc ++ y).length ≤ sizeLine ∧ dFs ds (acc ++ y) env c1 P
    | _ => False
theorem fmt_up {d : DE} {σ : L2.St} {H : Hp} {Q : VK} (h : up K E (dFmt d) σ H Q) : tFmt (up K E d) σ H Q := by
  obtain ⟨g, env, c, P, rel, q, k⟩ := h
  refine ⟨g, env, c, _, rel, q, fun x c1 g1 H1 v p1 m1 r1 o1 f1 => ?_⟩
  cases x with
  | deck => exact p1.elim
  | exc _ => exact p1.elim
  | own l => exact p1.elim
  | dat z =>
    cases z with
    | str y => exact .inl ⟨y, dp_str o1, p1.1, k _ c1 g1 H1 _ p1.2 m1 r1 (.str _) trivial⟩
    | int i => exact .inr ⟨i, dp_int o1, p1.1, k _ c1 g1 H1 _ p1.2 m1 r1 (.str _) trivial⟩
    | none => exact p1.elim
    | bool _ => exact p1.elim
    | list _ => exact p1.elim
    | tuple _ => exact p1.elim
    | dict _ => exact p1.elim
theorem js_up : ∀ {ds : List DE} {acc : Str} {σ : L2.St} {H : Hp} {Q : VK}, up K E (dFs ds acc) σ H Q → tJs (ds.map (up K E)) acc σ H fun out H1 => Q (.str out) H1
  | [], acc, σ, H, Q, h => by
    obtain ⟨g, env, c, P, rel, q, k⟩ := h
    exact k _ c g H _ q (Mv.refl g H) rel (.str _) trivial
  | d :: ds, acc, σ, H, Q, h => by
    obtain ⟨g, env, c, P, rel, q, k⟩ := h
    refine ⟨g, env, c, _, rel, q, fun x c1 g1 H1 v p1 m1 r1 o1 f1 => ?_⟩
    cases x with
    | deck => exact p1.elim
    | exc _ => exact p1.elim
    | own l => exact p1.elim
    | dat z =>
      cases z with
      | str y => exact ⟨y, dp_str o1, p1.1, js_up ⟨g1, env, c1, P, r1, p1.2, fun x c2 g2 H2 w p2 m2 r2 o2 f2 => k x c2 g2 H2 w p2 (m1.trans m2) r2 o2 f2⟩⟩
      | none => exact p1.elim
      | bool _ => exact p1.elim
      | int _ => exact p1.elim
      | list _ => exact p1.elim
      | tuple _ => exact p1.elim
      | dict _ => exact p1.elim
end
section
variable {X : Cx} {E : En} {o e v1 v2 : Expr} {rest es : List Expr} {da db d : DE} {ds : List DE} {pos apos : Pos}
theorem de_join (ha : DPE X E o da) (hb : DPE X E e db) (he : starEach [e] X.env = [(false, eval e X.env)] := by rfl) (hat : attributeBase o "join" X.env (eval o X.env) = eval o X.env := by rfl) (hl : (apos.endLine == pos.line) = true := by rfl) :
    DPE X E (.Call (.Attribute o "join" apos) [e] [] pos) (dJoin da db) := pe_imp (pe_join ha hb he hat hl) fun _ _ _ h => join_up h
def DPJ (X : Cx) (E : En) (es : List Expr) (ds : List DE) : Prop := PJ X es (ds.map (up X.K E))
theorem dj_nil : DPJ X E [] [] := PJ.nil
theorem dj_cons (h : DPE X E e d) (t : DPJ X E es ds) : DPJ X E (e :: es) (d :: ds) := PJ.cons h t
theorem de_fmt (h : DPE X E e d) : DPE X E (.FormattedValue e (-1) none pos) (dFmt d) := pe_imp (pe_fmt h) fun _ _ _ h => fmt_up h
theorem de_fs (h : DPJ X E (v1 :: v2 :: rest) ds) : DPE X E (.JoinedStr (v1 :: v2 :: rest) pos) (dFs ds Str.empty) := pe_imp (pe_joined h) fun _ _ _ h => js_up h
end
end DL
set_option maxHeartbeats 2000000
/-! texts, for the runner -/
namespace DL
open PySem PySem.Spec PyProof.Rows L2
def strK (d : PyData) (k : Str → Prop) : Prop := match d with
  | .str s => k s
  | _ => False
def lstK (d : PyData) (k : List PyData → Prop) : Prop := match d with
  | .list l => k l
  | _ => False
def fmtK (d : PyData) (k : Str → Prop) : Prop := match d with
  | .str y => y.length ≤ sizeLine ∧ k y
  | .int i => i.natAbs.log2 < 1920 ∧ k (toString i)
  | _ => False
def JoinK (s : Str) (ds : List PyData) (k : Str → Prop) : Prop := ∃ ys, strsOf ds = some ys ∧ (ys.map (·.length)).sum + ys.length * s.length ≤ 16777216 ∧ k (Txt.join s ys)
section
variable {d : DE} {ds : List DE} {da db : DE} {env : Ev} {c : Nat} {P : Vl → Nat → Prop} {k : Str → Prop} {kl : List PyData → Prop} {PD : PyData → Prop}
theorem x_strK {s : Str} : strK (.str s) k = k s := rfl
theorem x_lstK {l : List PyData} : lstK (.list l) kl = kl l := rfl
theorem x_fmtKS {s : Str} : fmtK (.str s) k = Sq (s.length ≤ sizeLine) (k s) {} := rfl
theorem x_fmtKI {i : Int} : fmtK (.int i) k = Sq (i.natAbs.log2 < 1920) (k (Str.ofString (toString i))) {} := rfl
theorem x_fmt : dFmt d env c P = d env c fun x c1 => datK x fun z => fmtK z fun y => P (.dat (.str y)) c1:= rfl
theorem x_fs0 {acc : Str} : dFs [] acc env c P = P (.dat (.str acc)) c := rfl
theorem x_fsS {acc : Str} : dFs (d :: ds) acc env c P = d env c fun x c1 => datK x fun z => strK z fun y => Sq ((acc ++ y).length ≤ sizeLine) (dFs ds (acc ++ y) env c1 P) {} := rfl
theorem x_join : dJoin da db env c P = da env c fun x c1 => datK x fun z => strK z fun s => db env c1 fun y c2 => datK y fun e => lstK e fun l => JoinK s l fun t => P (.dat (.str t)) c2 := rfl
theorem x_strI {i : Int} : rdStr [.int i] PD = Sq (i.natAbs.log2 < 1920) (PD (.str (Str.ofString (toString i)))) {} := rfl
theorem x_addS {x y : Str} : rdAddS (.str x) (.str y) PD = Sq (x.length + y.length ≤ sizeLine) (PD (.str (x ++ y))) {} := rfl
end
theorem strs_map (ys : List Str) : strsOf (ys.map PyData.str) = some ys := by
  induction ys with
  | nil => rfl
  | cons y r ih => simp [strsOf, ih]
theorem joink_ok {s : Str} {ys : List Str} {k : Str → Prop} (hl : (ys.map (·.length)).sum + ys.length * s.length ≤ 16777216) (h : k (Txt.join s ys)) : JoinK s (ys.map PyData.str) k := ⟨ys, strs_map ys, hl, h⟩
end DL
set_option maxHeartbeats 2000000
/-! texts parsed: split, partition, endswith, isdigit, isascii, int(text), len(text), text in text -/
namespace DL
open PySem PySem.Spec PyProof.Rows L2
theorem dpAll_strs {K : PySem.W.Frag} {F : Hp} : ∀ ys : List Str, DpAll K F (ys.map V.str) (ys.map PyData.str)
  | [] => .nil
  | y :: ys => .cons (.str y) (dpAll_strs ys)
def dM1 (rd : Str → Str → (PyData → Prop) → Prop) (da db : DE) : DE := fun env c P => da env c fun x c1 => datK x fun d => strK d fun a => db env c1 fun y c2 => datK y fun e => strK e fun b => rd a b fun z => P (.dat z) c2
def dM0 (rd : Str → (PyData → Prop) → Prop) (da : DE) : DE := fun env c P => da env c fun x c1 => datK x fun d => strK d fun a => rd a fun z => P (.dat z) c1
/-- what a method of two texts says, over data -/
def M1D (K : PySem.W.Frag) (r : V → List V → Hp → VK → Prop) (rd : Str → Str → (PyData → Prop) → Prop) : Prop :=
  ∀ (E : En) (g : Gh) (env : Ev) (c : Nat) (σ : L2.St) (H : Hp) (a b : Str) (P : PyData → Prop) (Q : VK), Rel K E g env c σ H → rd a b P → (∀ z g' H' v, P z → Mv g H g' H' → Rel K E g' env c σ H' → Dp K g'.F v z → Q v H') → r (.str a) [.str b] H Q
def M0D (K : PySem.W.Frag) (r : V → List V → Hp → VK → Prop) (rd : Str → (PyData → Prop) → Prop) : Prop :=
  ∀ (E : En) (g : Gh) (env : Ev) (c : Nat) (σ : L2.St) (H : Hp) (a : Str) (P : PyData → Prop) (Q : VK), Rel K E g env c σ H → rd a P → (∀ z g' H' v, P z → Mv g H g' H' → Rel K E g' env c σ H' → Dp K g'.F v z → Q v H') → r (.str a) [] H Q
section
variable {K : PySem.W.Frag} {E : En}
theorem strK_dp {F : Hp} {v : V} {d : PyData} {k : Str → Prop} (h : Dp K F v d) (q : strK d k) : ∃ s, v = .str s ∧ d = .str s ∧ k s := by
  cases d with
  | str s => exact ⟨s, dp_str h, rfl, q⟩
  | none => exact q.elim
  | bool _ => exact q.elim
  | int _ => exact q.elim
  | list _ => exact q.elim
  | tuple _ => exact q.elim
  | dict _ => exact q.elim
theorem m1_up {r : V → List V → Hp → VK → Prop} {rd : Str → Str → (PyData → Prop) → Prop} {da db : DE} {σ : L2.St} {H : Hp} {Q : VK} (hr : M1D K r rd) (h : up K E (dM1 rd da db) σ H Q) : tM1 r (up K E da) (up K E db) σ H Q := by
  obtain ⟨g, env, c, P, rel, q, k⟩ := h
  refine ⟨g, env, c, _, rel, q, fun x c1 g1 H1 v p1 m1 r1 o1 f1 => ?_⟩
  cases x with
  | deck => exact p1.elim
  | exc _ => exact p1.elim
  | own l => exact p1.elim
  | dat d =>
    obtain ⟨a, rfl, rfl, q1⟩ := strK_dp (K := K) o1 p1
    refine ⟨⟨a, rfl⟩, g1, env, c1, _, r1, q1, fun y c2 g2 H2 u p2 m2 r2 o2 f2 => ?_⟩
    cases y with
    | deck => exact p2.elim
    | exc _ => exact p2.elim
    | own l => exact p2.elim
    | dat e =>
      obtain ⟨b, rfl, rfl, q2⟩ := strK_dp (K := K) o2 p2
      exact hr E g2 env c2 σ H2 a b _ _ r2 q2 fun z g' H' w pz m3 r3 dz => k _ c2 g' H' w pz ((m1.trans m2).trans m3) r3 dz trivial
theorem bm1_up {r : V → List V → Hp → VK → Prop} {rd : Str → Str → (PyData → Prop) → Prop} {da db : DE} {σ : L2.St} {H : Hp} {Q : VK} (hr : M1D K r rd) (h : up K E (dM1 rd da db) σ H Q) :
    tBM K "str" r (up K E da) (fun σ H R => up K E db σ H fun v H1 => R [v] H1) σ H Q := by
  obtain ⟨g, env, c, P, rel, q, k⟩ := h
  refine ⟨g, env, c, _, rel, q, fun x c1 g1 H1 v p1 m1 r1 o1 f1 => ?_⟩
  cases x with
  | deck => exact p1.elim
  | exc _ => exact p1.elim
  | own l => exact p1.elim
  | dat d =>
    obtain ⟨a, rfl, rfl, q1⟩ := strK_dp (K := K) o1 p1
    refine ⟨rfl, g1, env, c1, _, r1, q1, fun y c2 g2 H2 u p2 m2 r2 o2 f2 => ?_⟩
    cases y with
    | deck => exact p2.elim
    | exc _ => exact p2.elim
    | own l => exact p2.elim
    | dat e =>
      obtain ⟨b, rfl, rfl, q2⟩ := strK_dp (K := K) o2 p2
      exact hr E g2 env c2 σ H2 a b _ _ r2 q2 fun z g' H' w pz m3 r3 dz => k _ c2 g' H' w pz ((m1.trans m2).trans m3) r3 dz trivial
theorem bm0_up {r : V → List V → Hp → VK → Prop} {rd : Str → (PyData → Prop) → Prop} {da : DE} {σ : L2.St} {H : Hp} {Q : VK} (hr : M0D K r rd) (h : up K E (dM0 rd da) σ H Q) : tBM0 K "str" r (up K E da) σ H Q := by
  obtain ⟨g, env, c, P, rel, q, k⟩ := h
  refine ⟨g, env, c, _, rel, q, fun x c1 g1 H1 v p1 m1 r1 o1 f1 => ?_⟩
  cases x with
  | deck => exact p1.elim
  | exc _ => exact p1.elim
  | own l => exact p1.elim
  | dat d =>
    obtain ⟨a, rfl, rfl, q1⟩ := strK_dp (K := K) o1 p1
    exact ⟨rfl, hr E g1 env c1 σ H1 a _ _ r1 q1 fun z g' H' w pz m3 r3 dz => k _ c1 g' H' w pz (m1.trans m3) r3 dz trivial⟩
end
/-! the methods -/
def rdSplit : Str → Str → (PyData → Prop) → Prop := fun a b P => (b.length == 0) = false ∧ a.length + 2 ≤ sizeLine ∧ P (.list ((Txt.split a b).map PyData.str))
def rdPart : Str → Str → (PyData → Prop) → Prop := fun a b P => (b.length == 0) = false ∧ a.length ≤ sizeLine ∧ P (.tuple [.str (Txt.partition a b).1, .str (Txt.partition a b).2.1, .str (Txt.partition a b).2.2])
def rdEnds : Str → Str → (PyData → Prop) → Prop := fun a b P => P (.bool (Txt.endswith a b))
def rdDigit : Str → (PyData → Prop) → Prop := fun a P => P (.bool (Txt.isdigit a))
def rdAscii : Str → (PyData → Prop) → Prop := fun a P => P (.bool (Txt.isascii a))
section
variable {X : Cx} {E : En} {o e : Expr} {da db : DE} {pos apos : Pos}
theorem de_split (ha : DPE X E o da) (hb : DPE X E e db) (he : starEach [e] X.env = [(false, eval e X.env)] := by rfl) (hat : attributeBase o "split" X.env (eval o X.env) = eval o X.env := by rfl) (hl : (apos.endLine == pos.line) = true := by rfl) :
    DPE X E (.Call (.Attribute o "split" apos) [e] [] pos) (dM1 rdSplit da db) := pe_imp (pe_split ha hb he hat hl) fun _ _ _ h => m1_up (fun E g env c σ H a b P Q r q k => ⟨a, b, rfl, rfl, q.1, q.2.1, fun p hp => by
    obtain ⟨r2, m2⟩ := r.new (.lst ((Txt.split a b).map V.str)) hp
    exact k _ _ _ _ q.2.2 m2 r2 (.lst (.of upd_same) (dpAll_strs _))⟩) h
theorem de_part (ha : DPE X E o da) (hb : DPE X E e db) (he : starEach [e] X.env = [(false, eval e X.env)] := by rfl) (hat : attributeBase o "partition" X.env (eval o X.env) = eval o X.env := by rfl) (hl : (apos.endLine == pos.line) = true := by rfl) :
    DPE X E (.Call (.Attribute o "partition" apos) [e] [] pos) (dM1 rdPart da db) := pe_imp (pe_partition ha hb he hat hl) fun _ _ _ h => m1_up (fun E g env c σ H a b P Q r q k => ⟨a, b, rfl, rfl, q.1, q.2.1, fun p hp => by
    obtain ⟨r2, m2⟩ := r.new (.tup [V.str (Txt.partition a b).1, V.str (Txt.partition a b).2.1, V.str (Txt.partition a b).2.2]) hp
    exact k _ _ _ _ q.2.2 m2 r2 (.tup (.of upd_same) (.cons (.str _) (.cons (.str _) (.cons (.str _) .nil))))⟩) h
theorem de_digit (ha : DPE X E o da) (hat : attributeBase o "isdigit" X.env (eval o X.env) = eval o X.env := by rfl) (hl : (apos.endLine == pos.line) = true := by rfl) :
    DPE X E (.Call (.Attribute o "isdigit" apos) [] [] pos) (dM0 rdDigit da) := pe_imp (pe_bm0 PySem.F.plainAttrs_str PySem.F.slot_str_isdigit PySem.F.type_str_isdigit mt_isdigit ha hat hl) fun _ _ _ h => bm0_up (fun E g env c σ H a P Q r q k => ⟨a, rfl, rfl, trivial, k _ g H _ q (Mv.refl g H) r (.bl _)⟩) h
theorem de_ascii (ha : DPE X E o da) (hat : attributeBase o "isascii" X.env (eval o X.env) = eval o X.env := by rfl) (hl : (apos.endLine == pos.line) = true := by rfl) :
    DPE X E (.Call (.Attribute o "isascii" apos) [] [] pos) (dM0 rdAscii da) := pe_imp (pe_bm0 PySem.F.plainAttrs_str PySem.F.slot_str_isascii PySem.F.type_str_isascii mt_isascii ha hat hl) fun _ _ _ h => bm0_up (fun E g env c σ H a P Q r q k => ⟨a, rfl, rfl, trivial, k _ g H _ q (Mv.refl g H) r (.bl _)⟩) h
theorem de_ends (ha : DPE X E o da) (hb : DPE X E e db) (hat : attributeBase o "endswith" X.env (eval o X.env) = eval o X.env := by rfl)
    (h2 : (((((backTo pos (starEach [e] X.env)).all fun x => !x.fst) && (backToKw pos (keywordEach [] X.env)).all fun x => x.fst.isSome) && decide (([e] : List Expr).length + ([] : List Expr).length + (if ([] : List Expr).isEmpty = true then 0 else 1) < 30)) = true) := by rfl) (hl : (apos.endLine == pos.line) = true := by rfl)
    (he : starEach [e] X.env = (false, eval e X.env) :: starEach [] X.env := by rfl) (hp : (backTo pos (starEach [] X.env)).any (·.1) = false := by rfl) :
    DPE X E (.Call (.Attribute o "endswith" apos) [e] [] pos) (dM1 rdEnds da db) := pe_imp (pe_bm PySem.F.plainAttrs_str PySem.F.slot_str_endswith PySem.F.type_str_endswith mt_endswith ha (pa_cons hb pa_nil he) hat h2 hl he hp) fun _ _ _ h => bm1_up (fun E g env c σ H a b P Q r q k => ⟨a, b, rfl, rfl, k _ g H _ q (Mv.refl g H) r (.bl _)⟩) h
/-- text in text -/
def rdInS (neg : Bool) : PyData → PyData → (PyData → Prop) → Prop := fun d e P => match d, e with
  | .str i, .str j => P (.bool (if neg then (Builtin.Str.occurrences j i 0 j.length 1).isEmpty else !(Builtin.Str.occurrences j i 0 j.length 1).isEmpty))
  | _, _ => False
theorem opd_inS {K : PySem.W.Frag} : OpD K (fun x y H Q => ∃ i j, x = V.str i ∧ y = V.str j ∧ Q (V.bl !(Builtin.Str.occurrences j i 0 j.length 1).isEmpty) H) (rdInS false) := by
  intro E g env c σ H x y d e P Q r hx hy q k
  unfold rdInS at q
  split at q
  · rw [dp_str hx, dp_str hy]
    exact ⟨_, _, rfl, rfl, k _ g H _ q (Mv.refl g H) r (.bl _)⟩
  · exact q.elim
/-- len of a text, int of a text -/
def rdLenS : List PyData → (PyData → Prop) → Prop := fun ds P => match ds with
  | [.str z] => z.length ≤ sizeLine ∧ P (.int z.length)
  | _ => False
theorem cd_lenS {K : PySem.W.Frag} : CallD K (fun xs H Q => ∃ z, xs = [V.str z] ∧ z.length ≤ sizeLine ∧ Q (V.int z.length) H) rdLenS := by
  intro E g env c σ H xs ds P Q r h q k
  unfold rdLenS at q
  split at q
  · cases h with
    | cons h1 t =>
      cases t
      rw [dp_str h1]
      exact ⟨_, rfl, q.1, k _ g H _ q.2 (Mv.refl g H) r (.int _)⟩
  · exact q.elim
def rdIntS : List PyData → (PyData → Prop) → Prop := fun ds P => match ds with
  | [.str a] => ∃ n, intText? a = some n ∧ a.length ≤ 640 ∧ P (.int n)
  | _ => False
theorem cd_intS {K : PySem.W.Frag} : CallD K (fun xs H Q => ∃ a n, xs = [V.str a] ∧ intText? a = some n ∧ a.length ≤ 640 ∧ Q (V.int n) H) rdIntS := by
  intro E g env c σ H xs ds P Q r h q k
  unfold rdIntS at q
  split at q
  · cases h with
    | cons h1 t =>
      cases t
      rw [dp_str h1]
      obtain ⟨n, e, hl, hP⟩ := q
      exact ⟨_, n, rfl, e, hl, k _ g H _ hP (Mv.refl g H) r (.int _)⟩
  · exact q.elim
end
end DL
set_option maxHeartbeats 2000000
/-! texts: cuts, a walk over the signs, in and not in; rows for the runner -/
namespace DL
open PySem PySem.Spec PyProof.Rows L2
def signsD (z : Str) : List PyData := z.cps.toList.map fun c => .str ⟨#[c]⟩
def wS (da : DE) : DI := fun env c P => da env c fun x c1 => datK x fun d => strK d fun z => P (signsD z) c1
theorem walk_str {z : Str} : Walk (Its z) (signsD z).length (fun _ => True) (fun i H x H' => H' = H ∧ ∃ c, z.cps[i]? = some c ∧ x = .str ⟨#[c]⟩) := by
  have hl : (signsD z).length = z.cps.size := by simp [signsD]
  refine ⟨fun i H hi _ => by show i < z.cps.size; omega, fun H _ => by show z.cps.size ≤ _; omega, fun i H x H' hi _ y => y⟩
def dSlS (da : DE) (lo hi : DO) : DE := fun env c P => da env c fun x c1 => datK x fun d => lo env c1 fun l c2 => hi env c2 fun u c3 => strK d fun z => z.length ≤ sizeLine ∧ P (.dat (.str (cutS z l u))) c3
theorem opd_notInS {K : PySem.W.Frag} : OpD K (fun x y H Q => ∃ i j, x = V.str i ∧ y = V.str j ∧ Q (V.bl !!(Builtin.Str.occurrences j i 0 j.length 1).isEmpty) H) (rdInS true) := by
  intro E g env c σ H x y d e P Q r hx hy q k
  unfold rdInS at q
  split at q
  · rw [dp_str hx, dp_str hy]
    rename_i i j
    refine ⟨_, _, rfl, rfl, ?_⟩
    rw [Bool.not_not]
    exact k _ g H _ q (Mv.refl g H) r (.bl _)
  · exact q.elim
section
variable {X : Cx} {E : En} {tg a b : Expr} {da db : DE} {pos : Pos}
theorem dw_str (h : DPE X E a da) : DPI X E tg a (wS da) := by
  refine pi_imp (pi_str h) fun σ H R h => ?_
  obtain ⟨g, env, c, P, rel, q, k⟩ := h
  refine ⟨g, env, c, _, rel, q, fun x c1 g1 H1 v p1 m1 r1 o1 f1 => ?_⟩
  cases x with
  | deck => exact p1.elim
  | exc _ => exact p1.elim
  | own l => exact p1.elim
  | dat d =>
    obtain ⟨z, rfl, rfl, q1⟩ := strK_dp (K := X.K) o1 p1
    refine ⟨z, rfl, k _ c1 g1 H1 _ q1 m1 r1 ⟨_, _, walk_str, fun _ _ _ _ => trivial, fun i H2 x2 H3 d2 e y => ?_⟩⟩
    obtain ⟨rfl, ch, hc, rfl⟩ := y
    unfold signsD at e
    rw [List.getElem?_map, Array.getElem?_toList, hc] at e
    cases e
    exact .inl ⟨rfl, .str _⟩
theorem de_slS {lo hi : Option Expr} {dl dh : DO} {p2 : Pos} (h : DPE X E a da) (hl : DPO X E lo dl) (hu : DPO X E hi dh) : DPE X E (.Subscript a (.Slice lo hi none p2) pos) (dSlS da dl dh) := by
  refine pe_imp (pe_slice sl_str h hl hu) fun σ H Q h => ?_
  obtain ⟨g, env, c, P, rel, q, k⟩ := h
  refine ⟨g, env, c, _, rel, q, fun x c1 g1 H1 v p1 m1 r1 o1 f1 => ?_⟩
  cases x with
  | deck => exact p1.elim
  | exc _ => exact p1.elim
  | own l => exact p1.elim
  | dat d =>
    refine ⟨g1, env, c1, _, r1, p1, fun l c2 g2 H2 p2 m2 r2 => ⟨g2, env, c2, _, r2, p2, fun u c3 g3 H3 p3 m3 r3 => ?_⟩⟩
    obtain ⟨z, rfl, rfl, q1⟩ := strK_dp (K := X.K) o1 p3
    exact ⟨z, rfl, q1.1, k _ c3 g3 H3 _ q1.2 ((m1.trans m2).trans m3) r3 (.str _) trivial⟩
theorem de_inS (ha : DPE X E a da) (hb : DPE X E b db) (hm : behindInMarks .In b = false := by rfl) : DPE X E (.Compare a [.In] [b] pos) (dOp (rdInS false) da db) := de_cmp op_in_str opd_inS ha hb hm
theorem dt_inS (ha : DPE X E a da) (hb : DPE X E b db) (hm : behindInMarks .In b = false := by rfl) : DPT X E (.Compare a [.In] [b] pos) (tVal (dOp (rdInS false) da db)) := dt_cmp op_in_str opd_inS ha hb hm
theorem de_notInS (ha : DPE X E a da) (hb : DPE X E b db) (hm : behindInMarks .NotIn b = false := by rfl) : DPE X E (.Compare a [.NotIn] [b] pos) (dOp (rdInS true) da db) := de_cmp op_notin_str opd_notInS ha hb hm
theorem dt_notInS (ha : DPE X E a da) (hb : DPE X E b db) (hm : behindInMarks .NotIn b = false := by rfl) : DPT X E (.Compare a [.NotIn] [b] pos) (tVal (dOp (rdInS true) da db)) := dt_cmp op_notin_str opd_notInS ha hb hm
end
/-! rows -/
section
variable {da db : DE} {env : Ev} {c : Nat} {P : Vl → Nat → Prop} {PF : List PyData → Nat → Prop} {PD : PyData → Prop} {rd : Str → Str → (PyData → Prop) → Prop} {rd0 : Str → (PyData → Prop) → Prop} {lo hi : DO} {a b : Str}
theorem x_dM1 : dM1 rd da db env c P = da env c fun x c1 => datK x fun d => strK d fun a => db env c1 fun y c2 => datK y fun e => strK e fun b => rd a b fun z => P (.dat z) c2 := rfl
theorem x_dM0 : dM0 rd0 da env c P = da env c fun x c1 => datK x fun d => strK d fun a => rd0 a fun z => P (.dat z) c1 := rfl
theorem x_split : rdSplit a b PD = Sq ((b.length == 0) = false) (Sq (a.length + 2 ≤ sizeLine) (PD (.list ((Txt.split a b).map PyData.str))) {}) {} := rfl
theorem x_part : rdPart a b PD = Sq ((b.length == 0) = false) (Sq (a.length ≤ sizeLine) (PD (.tuple [.str (Txt.partition a b).1, .str (Txt.partition a b).2.1, .str (Txt.partition a b).2.2])) {}) {} := rfl
theorem x_ends : rdEnds a b PD = PD (.bool (Txt.endswith a b)) := rfl
theorem x_digit : rdDigit a PD = PD (.bool (Txt.isdigit a)) := rfl
theorem x_ascii : rdAscii a PD = PD (.bool (Txt.isascii a)) := rfl
theorem x_lenS : rdLenS [.str a] PD = Sq (a.length ≤ sizeLine) (PD (.int a.length)) {} := rfl
theorem x_inSf : rdInS false (.str a) (.str b) PD = PD (.bool (!(Builtin.Str.occurrences b a 0 b.length 1).isEmpty)) := rfl
theorem x_inSt : rdInS true (.str a) (.str b) PD = PD (.bool ((Builtin.Str.occurrences b a 0 b.length 1).isEmpty)) := rfl
theorem x_wS : wS da env c PF = da env c fun x c1 => datK x fun d => strK d fun z => PF (signsD z) c1 := rfl
theorem x_slS : dSlS da lo hi env c P = da env c fun x c1 => datK x fun d => lo env c1 fun l c2 => hi env c2 fun u c3 => strK d fun z => Sq (z.length ≤ sizeLine) (P (.dat (.str (cutS z l u))) c3) {} := rfl
end
end DL
set_option maxHeartbeats 2000000
/-! isinstance(e, (classes)), any number of own and built-in ones -/
namespace DL
open PySem PySem.Spec PyProof.Rows L2
/-- names of classes, and what they are -/
structure ClsL (X : Cx) (es : List Expr) (cs : List V) (ws : List Value) : Prop where
  pa : PA X es (fun σ H R => R cs H)
  vs : ∀ us, Vals cs us → us = ws
section
variable {X : Cx} {es : List Expr} {cs : List V} {ws : List Value} {cx : Str} {p : Pos}
theorem cl_nil : ClsL X [] [] [] := ⟨pa_nil, fun us h => by cases h; rfl⟩
theorem cl_own {D : Addr} (hm : X.mg cx = some (.ref D)) (t : ClsL X es cs ws) (hg : Gl X cx := by rfl) (hdb : (cx == ("__debug__" : Str)) = false := by decide)
    (h0 : starEach (.Name cx p :: es) X.env = (false, eval (.Name cx p) X.env) :: starEach es X.env := by rfl) : ClsL X (.Name cx p :: es) (.ref D :: cs) (.ref D :: ws) :=
  ⟨pa_cons (pe_glob (v := .ref D) hg hm rfl hdb) t.pa h0, fun us h => by
    cases h with
    | cons a r =>
      cases a
      rw [t.vs _ r]⟩
theorem cl_blt {T : String} (hm : X.mg cx = none) (hv : bootBuiltins cx = some (.type T)) (t : ClsL X es cs ws) (hg : Gl X cx := by rfl) (hnn : cx ≠ "__name__" := by decide) (hdb : (cx == ("__debug__" : Str)) = false := by decide)
    (h0 : starEach (.Name cx p :: es) X.env = (false, eval (.Name cx p) X.env) :: starEach es X.env := by rfl) : ClsL X (.Name cx p :: es) (.ty T :: cs) (.type T :: ws) :=
  ⟨pa_cons (pe_bltn (v := .ty T) hg hm hv rfl hnn hdb) t.pa h0, fun us h => by
    cases h with
    | cons a r =>
      cases a
      rw [t.vs _ r]⟩
end
section
variable {X : Cx} {E : En} {a C : Addr} {oe : Obj} {d : Option Addr} {pn : List (Addr × Obj)} {e n1 : Expr} {es : List Expr} {cs : List V} {ws : List Value} {de : DE} {x : Str} {fs : List (Str × PyData)} {b : Bool} {p pos tpos : Pos} {kk : Nat}
theorem de_isXN (T : XIs X.K C) (hz : Zc (.ref C) d oe) (hf : ∃ vs, oe.data = .fields vs) (xok : XOk X.K X.mg E.g.F E.H (fun a => ¬ isDk E.g a) x fs (.ref C) d) (hk : PySem.W.kitAny X.K (.ref C) ws = some b) (hc : ClsL (X.suite a ((a, oe) :: pn)) (n1 :: es) cs ws) (hm : X.mg "isinstance" = none)
    (he : DPE (X.suite a ((a, oe) :: pn)) E e de) (hsz : cs.length ≤ 100 := by decide) (hg : Gl X "isinstance" := by rfl)
    (h1 : starEach [e, .Tuple (n1 :: es) kk tpos] X.env = (false, eval e X.env) :: starEach [.Tuple (n1 :: es) kk tpos] X.env := by rfl) (h2 : (backTo pos (starEach [.Tuple (n1 :: es) kk tpos] X.env)).any (·.1) = false := by rfl) :
    DPE (X.suite a ((a, oe) :: pn)) E (.Call (.Name "isinstance" p) [e, .Tuple (n1 :: es) kk tpos] [] pos) (dIsX a b de) := by
  refine pe_imp (pe_callB (X := X.suite a ((a, oe) :: pn)) (call_isXT (cs := cs) (ws := ws) T hz hf) hg hm PyProof.Rows.boot_isinstance (pa_cons he (pa_cons (pe_tup hc.pa) pa_nil) h1) (by decide) (by decide) h1 h2) fun σ H Q h => ?_
  obtain ⟨g, env, c, P, rel, q, k⟩ := h
  refine ⟨g, env, c, _, rel, q, fun y c1 g1 H1 v p1 m1 r1 o1 f1 => ?_⟩
  obtain ⟨rfl, p1⟩ := p1
  obtain rfl : v = .ref a := o1
  refine ⟨small_le (by omega), fun tp htp => ?_⟩
  obtain ⟨r2, m2⟩ := r1.extra (.tup cs) htp
  exact ⟨tp, b, rfl, upd_same, hc.vs, xok_field xok r2, hk, k _ c1 g1 _ _ p1 (m1.trans m2) r2 (.bl b) trivial⟩
end
end DL
set_option maxHeartbeats 2000000
namespace DL
open PySem PySem.Spec PyProof.Rows L2
/-! ### raise X(): an own class of errors without fields -/
section
variable {X : Cx} {C : Addr} {bmB : List Value} {B newId initId : String}
theorem pmk_none {x : Str} {p pos : Pos} (F : ExcBaseFacts B newId initId bmB) (q : PySem.W.excIn X.K C bmB newId = true) (gC : X.mg x = some (.ref C)) (kC : PySem.W.keepIn X.K (.ref C) = true) (r : Raises X (.ref C)) (hg : Gl X x)
    (hdb : (x == ("__debug__" : Str)) = false := by decide) : PMk X (.Call (.Name x p) [] [] pos) (fun _ H Q => Q (.ref C) none H) := by
  intro pins s σ H Q I h
  refine wpAny_Call_Name_kw (ld_glob I hg gC ?_ hdb)
  refine PySem.W.callWith_K0 I.kIn kC ?_
  show wpAny _ _ (call (.ref C) []) _ _ _
  obtain ⟨bm, N, nm, qn, bs, hdct, sn, sub, ab, col, dd, k0, k1, k2, k3, k5, mN, hC, hN, hni, T⟩ := exc_obj I.kIn q
  exact wpAny_call_exc_subT F T hC hN hni (fun h' e hm => mk_of I hm r h (I.hok.gone hm.new)) (Nat.zero_le _)
end
def veB : List Value := [.type "ValueError", .type "Exception", .type "BaseException", .type "object"]
/-- an own class of errors without fields -/
def EX0 (K : PySem.W.Frag) (mg : Str → Option Value) (x : Str) : Prop := ∃ C, mg x = some (.ref C) ∧ PySem.W.excIn K C veB "ValueError.__new__" = true ∧ PySem.W.keepIn K (.ref C) = true ∧ PySem.W.subIn K (.ref C) (.type "BaseException") = some true ∧ PySem.W.typeIn K (.ref C) = some (.type "type")
def sRaise0 (x : Str) (W : XW) : DS := fun _ env c => W x [] env c
section
variable {X : Cx} {E : En} {x : Str} {p pos pos' : Pos} {W : XW}
theorem ds_raise0 (C : EX0 X.K X.mg x) (tk : Takes X (upW X.K X.mg E W)) (hc : X.calm = true := by rfl) (hg : Gl X x := by rfl) (hdb : (x == ("__debug__" : Str)) = false := by decide) :
    DPS X E (.Raise (some (.Call (.Name x p) [] [] pos)) none pos') (sRaise0 x W) := by
  obtain ⟨C, hm, q, kC, sb, ty⟩ := C
  refine ps_imp (ps_raise hc tk (pmk_none F.excBase_ValueError q hm kC (raises_own sb ty) hg hdb)) fun D σ H h => ?_
  obtain ⟨g, env, c, P, rel, q, _⟩ := h
  exact ⟨g, env, c, x, [], rel, ⟨C, hm, rfl, .inl ⟨rfl, rfl⟩⟩, q⟩
end
end DL
set_option maxHeartbeats 2000000
/-! [elt for .. in ..] whose element may raise -/
namespace PySem
namespace HandSPX
section
variable {M : Model} {A : Around} {E : Value → Shared → Prop} {s : Shared} {Z : Obj → Prop} {base : Heap} {env : Env} {outer l : List Env} {L L' e : Addr}
/-- it was noted at another place -/
theorem looks_otherZ {Q : Unit → Shared → Prop} (hZ : Steady Z) (hne : L' ≠ L) (hfr : A.frames = some (env :: outer)) (hf : env.frame = some L) (hfl : HeldZ base (env :: outer) e Z L' s.heap)
    (hQ : ∀ h', HeldZ base (env :: outer) e Z L h' → s.heap.UpToSlots h' → Q () { s with heap := h' }) : wpAny M A (noteFrame (.ref e) env) Q E s := by
  obtain ⟨hkb, hen, hl, oe, vs, T, oT, ts, he, hz, hd, h1, hnT, hTe, hT, hdT, h3⟩ := hfl
  unfold noteFrame
  simp only [hf]
  refine wpAny_bind (wpAny_field he hd h1 ?_)
  rw [if_pos (show (Value.ref T != Value.none) = true from by simp)]
  refine wpAny_bind (wpAny_field hT hdT h3 ?_)
  rw [if_neg (show ¬ ((rawInt L' == rawInt L) = true) from fun z => hne (Int.ofNat.inj (by simpa [rawInt] using z)))]
  refine wpAny_bind (wpAny_setField hT hdT (Array.getElem?_eq_some_iff.mp h3).1 ?_)
  have other : ∀ b, b ≠ T → (s.heap.update T (Obj.mapFields (·.setIfInBounds 3 Value.none))).get? b = s.heap.get? b := fun b hb => Heap.get?_update_other _ _ (Ne.symm hb)
  have noRecord : ∀ b o, s.heap.get? b = some o → (∀ vs, o.data ≠ .fields vs) → b ≠ T := fun b o hb hnf q => by
    rw [q, hT] at hb; injection hb with hb; subst hb; exact hnf ts hdT
  refine wpAny_entryZ hZ hfr (hl.of_keeps fun b o hb hnf => ⟨o, (other b (noRecord b o hb hnf)).trans hb, rfl⟩) hf ((other e (Ne.symm hTe)).trans he)
    (fun b o hbo => (other b fun q => by rw [q, hnT] at hbo; cases hbo).trans (hkb b o hbo)) hen hd (Array.getElem?_eq_some_iff.mp h1).1 hz fun h' hN => ?_
  obtain ⟨x1, x2, x3, x4⟩ := hN
  exact hQ h' ⟨x1, hen, x2, x3⟩ fun b o hb hnf => x4 b o ((other b (noRecord b o hb hnf)).trans hb) hnf
end
end HandSPX
end PySem
namespace L2
open PySem PySem.Spec PyProof.Rows
/-- the wish of a block: what flies is noted, the names are let go, it goes on in the def -/
def hotXe (X : Cx) (ce : Env) : Value → Shared → Prop := notedBy (model X.prog X.w) X.A ce (CompFails (model X.prog X.w) X.A X.xe ce)
theorem hot_takes {X : Cx} {pins : List (Addr × Obj)} {σ : St} {H3 : Hp} {s3 : Shared} {scope : Scope} {ce : Env} {fp : List Addr} {W0 : Value → Option Addr → Hp → Prop}
    (hs : X.stack = X.env :: X.outer) (hf : X.env.frame = some X.env.locals) (tk : Takes X (fun cls d _ H => W0 cls d H)) (I3 : Inv X pins σ H3 s3) (hcf : ce.frame = X.env.frame) (cL : ce.locals = s3.heap.objs.size)
    (f3 : ∀ b ∈ fp, FpOk X pins H3 b) : Takes ((X.blk s3 H3 scope ce fp).wish (hotXe X ce)) (fun cls d _ H => W0 cls d H) := by
  rintro u s' ⟨a, B, sI, pinsB, σB, HB, cls, d, rfl, IB, nb, up, sky, na, os, ag, w⟩
  have IB : Inv (X.blk s3 H3 scope ce fp) pinsB σB HB sI := IB.unwish
  have hfr : X.A.frames = some (X.env :: X.outer) := by rw [I3.ok.frames, hs]
  have nC : HB ce.locals = none := IB.free
  obtain ⟨m0, hn0, _⟩ := IB.loc
  have hn0 : sI.heap.Ns ce.locals m0 := hn0
  have up : sI.heap.UpToSlots s'.heap := up
  have I7 : Inv X pins σ HB sI := I3.call' (ch := fp) IB.os IB.base IB.hok IB.bare fun b hb => ⟨(f3 b hb).2.2.2.1, (f3 b hb).2.1, (f3 b hb).2.2.2.2.1, (f3 b hb).2.2.2.2.2⟩
  have hlt : X.env.locals < s3.heap.objs.size := I3.lt
  have hCL : ce.locals ≠ X.env.locals := by rw [cL]; exact Nat.ne_of_gt hlt
  have fC : FpOk X pins HB ce.locals := by
    have z := I3.fpOk (H' := HB) (b := ce.locals) (Nat.le_of_eq cL.symm) nC
    exact z
  show wpAny _ _ (noteFrame (.ref a) ce) _ _ s'
  rw [noteFrame_env _ hcf]
  have fin : ∀ h1, HandSPX.HeldZ B (X.env :: X.outer) a (Zc cls d) X.env.locals h1 → s'.heap.UpToSlots h1 → CompFails (model X.prog X.w) X.A X.xe ce (.ref a) { s' with heap := h1 } := fun h1 hh up1 => by
    obtain ⟨b1, b0, fr1, oe, vs, T, oT, ts, he, hz, hd, hv1, hnT, hTe, hT, hdT, hts⟩ := hh
    have hn1 : h1.Ns ce.locals m0 := (hn0.upToSlots up).upToSlots up1
    refine ⟨m0, hn1, fun h2 m2 hn2 sb => ?_⟩
    have sb : Heap.SameBut ce.locals h1 h2 := sb
    have nf : ∀ b o vs, h1.get? b = some o → o.data = .fields vs → b ≠ ce.locals := fun b o vs e q z => by
      obtain ⟨oL, es, ep, hoL, hdL, r⟩ := hn1
      rw [z, hoL] at e
      cases e
      rw [hdL] at q
      cases q
    have at2 : ∀ b o, b ≠ ce.locals → h1.get? b = some o → h2.get? b = some o := fun b o hb e => (sb.2 b hb).trans e
    have hB' : ∀ b o, (PySem.W.hideAll B [ce.locals]).get? b = some o → B.get? b = some o ∧ b ≠ ce.locals := fun b o e =>
      ⟨PySem.W.of_hideAll _ e, fun z => by rw [z, PySem.W.hideAll_none _ (by simp)] at e; cases e⟩
    have b0' : ∀ b, B.get? b = none → (PySem.W.hideAll B [ce.locals]).get? b = none := fun b e => by
      cases q : (PySem.W.hideAll B [ce.locals]).get? b with
      | none => rfl
      | some o =>
        rw [(hB' b o q).1] at e
        cases e
    have b2 : (PySem.W.hideAll B [ce.locals]).StaysIn h2 := fun b o e => at2 b o (hB' b o e).2 (b1 b o (hB' b o e).1)
    have fr2 : h2.FunFrames (PySem.W.hideAll B [ce.locals]) (X.env :: X.outer) := funFrames_none (Heap.FunFrames.sameBut sb hn2 fr1) fun b hb => b0' b (fr1.mem hb).1
    have t2 : HandSPX.TracedZ h2 (PySem.W.hideAll B [ce.locals]) a (Zc cls d) (rawInt X.env.locals) :=
      ⟨oe, vs, T, oT, ts, at2 _ _ (nf _ _ _ he hd) he, hz, hd, hv1, b0' _ hnT, hTe, at2 _ _ (nf _ _ _ hT hdT) hT, hdT, hts⟩
    unfold PySem.passOn
    refine wpAny_bind (wpAny_field (at2 _ _ (nf _ _ _ he hd) he) hd hv1 ?_)
    rw [if_neg (show ¬ ((Value.ref T == Value.none) = true) from by simp)]
    rw [hcf, hf]
    refine wpAny_bind (HandSPX.setFlight_anyZ (l := X.env :: X.outer) (fr := some X.env.locals) b2 fr2 t2 fun h4 b4 fr4 t4 up4 => ?_)
    refine wpAny_throw ?_
    refine tk _ _ ⟨a, PySem.W.hideAll B [ce.locals], { sI with heap := PySem.W.hideAll sI.heap [ce.locals], toks := sI.toks }, pins, σ, HB, cls, d, rfl, ?_, fun b o e hb => ?_, fun b o e hnf => ?_, .inr (.inr ?_), na, os, ag, w⟩
    · exact I7.turned (fun b o hb e => PySem.W.hideAll_get _ e (by simpa using hb)) nC fC.2.1 fC.2.2.2.1 fC.2.2.2.2.1 fC.2.2.2.2.2
    · have e : (PySem.W.hideAll sI.heap [ce.locals]).get? b = some o := e
      refine PySem.W.hideAll_get _ (nb b o (PySem.W.of_hideAll _ e) hb) fun z => ?_
      rw [PySem.W.hideAll_none _ z] at e
      cases e
    · have e : (PySem.W.hideAll sI.heap [ce.locals]).get? b = some o := e
      have hb : b ≠ ce.locals := fun z => by rw [z, PySem.W.hideAll_none _ (by simp)] at e; cases e
      obtain ⟨l1, e1⟩ := up b o (PySem.W.of_hideAll _ e) hnf
      obtain ⟨l2, e2⟩ := up1 b _ e1 hnf
      obtain ⟨l4, e4⟩ := up4 b _ (at2 b _ hb e2) hnf
      exact ⟨l4, e4⟩
    · rw [hs]
      exact ⟨b4, b0' _ b0, fr4, t4⟩
  have sky : Sky B X.stack a (Zc cls d) ce.locals s'.heap := sky
  rw [hs] at sky
  rcases sky with ⟨hB, hn, hl, oe, vs, he, hz, hd, h1⟩ | fl | hh
  · exact HandSPX.look_newZ Zc.steady hfr hl hf he hB hn hd h1 hz fin
  · exact HandSPX.looks_onZ Zc.steady hfr hf fl fin
  · exact HandSPX.looks_otherZ Zc.steady hCL hfr hf hh fin
end L2
namespace L2
open PySem PySem.Spec PyProof.Rows
section
variable {X : Cx} {pins : List (Addr × Obj)} {σ : St} {H : Hp} {s : Shared}
/-- a list comprehension, as a value, whose element may let exceptions out (W0: what holds of them) -/
theorem pe_lcX {W0 : Value → Option Addr → Hp → Prop} {elt tg iter : Expr} {ifs : List Expr} {scope : Scope} {own : List (Str × Nat)} {pos : Pos} {wi : TI} {g : TG} {tt : TT} {te : TE}
    (hst : X.stack = X.env :: X.outer) (hfr : X.env.frame = some X.env.locals) (tk : Takes X (fun cls d _ H => W0 cls d H)) (hc : X.calm = true) (hN : X.N.Nodup) (hi : PI X tg iter wi) (ok : BlkOk X.N X.env.scope scope own)
    (hg : ∀ (s : Shared) (H : Hp) (C : Addr) (cl : List (Str × Addr)) (fp : List Addr), PG (X.blk s H scope (compEnvC scope cl C X.env) fp) tg g) (ht : ∀ (s : Shared) (H : Hp) (C : Addr) (cl : List (Str × Addr)) (fp : List Addr), PTs (X.blk s H scope (compEnvC scope cl C X.env) fp) ifs tt)
    (he : ∀ (s : Shared) (H : Hp) (C : Addr) (cl : List (Str × Addr)) (fp : List Addr) (xe : Value → Shared → Prop), Takes ((X.blk s H scope (compEnvC scope cl C X.env) fp).wish xe) (fun cls d _ H => W0 cls d H) → PE ((X.blk s H scope (compEnvC scope cl C X.env) fp).wish xe) elt te)
    (hs : ∀ x, foldedSetIterable iter X.env x = pure x := by intro _; rfl) :
    PE X (.ListComp elt [⟨tg, iter, ifs, 0⟩] scope pos) (tLc wi g tt te (own.map (·.2))) := by
  refine ⟨fun pins s σ H Q I h => ?_⟩
  rw [eval_ListComp]
  have hfree : ∀ y ∈ scope.names, y.2 = .free → ∃ c, X.env.cells.lookup y.1 = some c := fun y hy e => by
    rcases ok.free y hy e with k | k
    · exact I.ok.has _ (.inl k)
    · exact I.ok.has _ (.inr k)
  refine comprehension_at (use := none) rfl hs (closure_ok hfree) ok.kind (fun y hy e => by rw [ok.uniq y hy, e])
    (thn (hi.run pins s σ H _ I h) fun xv s1 hx => thn hx fun itv s2 h2 => ?_)
  obtain ⟨it, fp, tn, J, H2, e, I2, T, st2, f2, q⟩ := h2
  subst e
  refine wpAny_newObj_type (newEnv_comp ?_) (by show 0 ≤ sizeLine; decide)
  generalize hD : s2.heap.objs.size = D
  have hDn : H2 D = none := I2.hok.fresh (Nat.le_of_eq hD)
  obtain ⟨W, ⟨m0, w0⟩, turn⟩ := q D hDn
  generalize hs3 : ({ s2 with heap := s2.heap.push { cls := .type "list", data := .seq ([] : List Value).toArray } } : Shared) = s3
  have I3 : Inv X pins σ (upd H2 D (.lst [])) s3 := by
    rw [← hs3]
    refine I2.laid (t' := s2.toks) (fun b o e => Heap.get?_push_of_some _ e) (Nat.le_of_eq hD) ⟨Nat.zero_le _, [], 0, .nil, ?_⟩
    rw [← hD]
    exact Heap.get?_push_size _ rfl
  have h3 : s3.heap = s2.heap.push { cls := .type "list", data := .seq ([] : List Value).toArray } := by rw [← hs3]
  have sz : ∀ b ∈ fp, b < s2.heap.objs.size := fun b hb => by
    obtain ⟨o, e, _⟩ := T.obj _ _ st2 b hb
    exact Heap.lt_size e
  have f3 : ∀ b ∈ fp, FpOk X pins (upd H2 D (.lst [])) b ∧ b < s3.heap.objs.size := fun b hb => by
    have hlt := sz b hb
    refine ⟨⟨?_, (f2 b hb).2⟩, by rw [h3, Heap.size_push]; exact Nat.lt_succ_of_lt hlt⟩
    rw [upd_ne (by rw [← hD]; exact Nat.ne_of_lt hlt)]
    exact (f2 b hb).1
  have st3 : tn 0 s3.heap := T.keep _ _ _ st2 fun b _ o e => by rw [h3]; exact Heap.get?_push_of_some _ e
  have I4 := block_start I3 ok hN f3
  have pg := hg s3 (upd H2 D (.lst [])) s3.heap.objs.size (cellsFrom (s3.heap.objs.size + 1) scope.names (cloFrom X.env.cells scope.names [])) fp
  have pt := ht s3 (upd H2 D (.lst [])) s3.heap.objs.size (cellsFrom (s3.heap.objs.size + 1) scope.names (cloFrom X.env.cells scope.names [])) fp
  have pe := he s3 (upd H2 D (.lst [])) s3.heap.objs.size (cellsFrom (s3.heap.objs.size + 1) scope.names (cloFrom X.env.cells scope.names [])) fp _ (hot_takes hst hfr tk I3 rfl rfl fun b hb => (f3 b hb).1)
  show codeAny _ _ (.compStart (.ListComp elt [⟨tg, iter, ifs, 0⟩] scope pos) 0 (.ref it) (.ref D) (compEnvC scope (cellsFrom (s3.heap.objs.size + 1) scope.names (cloFrom X.env.cells scope.names [])) s3.heap.objs.size X.env)) (compEnds (model X.prog X.w) X.A X.xe none (EP X pins σ Q) (.ref D) (compEnvC scope (cellsFrom (s3.heap.objs.size + 1) scope.names (cloFrom X.env.cells scope.names [])) s3.heap.objs.size X.env)) { s3 with heap := pushCells (s3.heap.push { cls := .type "dict", data := .dict #[] }) scope.names }
  have nfp : ∀ b ∈ fp, (upd H2 D (.lst [])) b = none := fun b hb => (f3 b hb).1.1
  generalize hce : compEnvC scope (cellsFrom (s3.heap.objs.size + 1) scope.names (cloFrom X.env.cells scope.names [])) s3.heap.objs.size X.env = ce at I4 pg pt pe ⊢
  have cL : ce.locals = s3.heap.objs.size := by subst hce; rfl
  generalize hH3 : upd H2 D (.lst []) = H3 at I3 I4 pg pt pe w0 nfp f3
  generalize hs4 : ({ s3 with heap := pushCells (s3.heap.push { cls := .type "dict", data := .dict #[] }) scope.names } : Shared) = s4 at I4 ⊢
  have st4 : tn 0 s4.heap := T.keep _ _ _ st3 fun b _ o e => by rw [← hs4]; exact pushCells_keeps _ _ _ _ (Heap.get?_push_of_some _ e)
  have stat : ∀ {σ' : St} {H' : Hp} {s' : Shared}, Inv (X.blk s3 H3 scope ce fp) [] σ' H' s' → (∀ b ∈ fp, H' b = none) → ∀ b ∈ fp, FpOk (X.blk s3 H3 scope ce fp) [] H' b := fun {σ' H' s'} I' hn b hb =>
    ⟨hn b hb, (I'.ok.exf b hb).1, I'.ok.exfs b hb, .inl hb, fun x c e => (I'.ok.exf b hb).2 x c e, fun p hp => absurd (show p ∈ ([] : List (Addr × Obj)) ++ [] from hp) (by simp)⟩
  have loop : codeAny (model X.prog X.w) X.A (.compLoop (.ListComp elt [⟨tg, iter, ifs, 0⟩] scope pos) 0 (.ref it) (.ref D) ce) (compEnds (model X.prog X.w) X.A X.xe none (EP X pins σ Q) (.ref D) ce) s4 := by
    refine compLoop_any (fun n s' => ∃ i H', Inv (X.blk s3 H3 scope ce fp) [] (wipe σ (own.map (·.2))) H' s' ∧ tn i s'.heap ∧ (∀ b ∈ fp, H' b = none) ∧ W i n H') ?_ m0 ⟨0, H3, I4, st4, nfp, w0⟩
    rintro n s5 ⟨i, H5, I5, st5, n5, w5⟩
    rcases turn i n H5 w5 with ⟨stop, qq⟩ | ⟨go, Nx, hNx, step⟩
    · have td := T.done (X.blk s3 H3 scope ce fp) rfl rfl rfl hc i [] s5 _ H5 (fun _ _ => False) I5 (stat I5 n5) st5 stop
      refine thnF td fun r s6 ⟨hr, I6⟩ => ?_
      subst hr
      have I7 : Inv X pins σ H5 s6 := I3.call' (ch := fp) I6.os I6.base I6.hok I6.bare fun b hb => ⟨(f3 b hb).1.2.2.2.1, (f3 b hb).1.2.1, (f3 b hb).1.2.2.2.2.1, (f3 b hb).1.2.2.2.2.2⟩
      have nC : H5 s3.heap.objs.size = none := by
        have z : H5 ce.locals = none := I6.free
        rw [cL] at z
        exact z
      obtain ⟨m, hn, _⟩ := I6.loc
      have hn : s6.heap.Ns ce.locals m := hn
      obtain ⟨f0, f1, f2, f3, f4, f5⟩ := I3.fpOk (Nat.le_refl _) nC
      refine ⟨m, hn, fun h'' sb => ?_⟩
      have sb : Heap.SameBut ce.locals s6.heap h'' := sb
      rw [cL] at sb
      exact ⟨.ref D, H5, I7.turned (t' := s6.toks) (fun b o hb e => (sb.2 b hb).trans e) f0 f1 f3 f4 f5, rfl, qq⟩
    · have ti := T.item (X.blk s3 H3 scope ce fp) rfl rfl rfl hc i [] s5 _ H5 (fun _ _ => False) I5 (stat I5 n5) st5 go
      refine thnF ti fun r s6 ⟨u, hr, h6⟩ => ?_
      subst hr
      refine thnF h6 fun _ s7 ⟨x, H7, I7, r7, y7, st7, n7⟩ => ?_
      have I7' := I7.pinned (stat I7 n7) (T.obj _ _ st7)
      refine thnF (pg.run _ s7 _ H7 x u _ I7' r7 (step x H7 y7)) fun _ s8 ⟨σ8, H8, I8, hw8, q8⟩ => ?_
      refine thnF (pt.run _ s8 σ8 H8 _ I8 q8) fun b s9 ⟨H9, I9, q9⟩ => ?_
      have fin : ∀ {s' : Shared} {H' : Hp}, Inv (X.blk s3 H3 scope ce fp) ([] ++ pinsAt fp s7.heap) σ8 H' s' → Nx H' → ∃ m, m < n ∧ ∃ i H', Inv (X.blk s3 H3 scope ce fp) [] (wipe σ (own.map (·.2))) H' s' ∧ tn i s'.heap ∧ (∀ b ∈ fp, H' b = none) ∧ W i m H' := fun {s' H'} I' nx => by
        obtain ⟨m', hm, w'⟩ := hNx H' nx
        have pin' : ∀ b ∈ fp, ∀ o, s7.heap.get? b = some o → s'.heap.get? b = some o ∧ H' b = none := fun b hb o e =>
          let z := I'.pin (b, o) (List.mem_append_right _ (List.mem_append_right _ (mem_pinsAt hb e)))
          ⟨z.1, z.2.1⟩
        have hl : (wipe σ (own.map (·.2))).length = σ8.length := by rw [← hw8, wipe_length]
        refine ⟨m', hm, i + 1, H', (I'.unpinned (pins := [])).weak hl (fun j v e => ?_), T.keep _ _ _ st7 fun b hb o e => (pin' b hb o e).1, fun b hb => ?_, w'⟩
        · rw [← hw8] at e
          exact (wipe_some e).1
        · obtain ⟨o, e, _⟩ := T.obj _ _ st7 b hb
          exact (pin' b hb o e).2
      cases b with
      | false =>
        simp only [Bool.false_eq_true, if_false] at q9 ⊢
        exact fin I9 q9
      | true =>
        simp only [if_true] at q9 ⊢
        refine wpAny_mono (pe.run _ s9 σ8 H9 _ (I9.wish _) q9) (fun z s10 ⟨yv, H10, I10, r10, acc, hD10, hz10, nx⟩ => ?_) fun _ _ z => z
        exact app_ok (X := X.blk s3 H3 scope ce fp) I10.unwish hD10 hz10 r10 fun s11 I11 => fin I11 nx
  exact codeAny_compStart_list loop (T.self X.A 0 _ _ _ st4 loop)
end
end L2
namespace DL
open PySem PySem.Spec PyProof.Rows L2
/-- what is wanted of an exception, whatever the slots -/
def upY (K : PySem.W.Frag) (mg : Str → Option Value) (E : En) (Px : Xd) : Value → Option Addr → Hp → Prop := fun cls d H => ∃ σ, upW K mg E (fun y fs _ c => Px y fs c) cls d σ H
theorem tkA {X : Cx} {E : En} {Px : Xd} (tk : Takes X (fun cls d _ H => upY X.K X.mg E Px cls d H)) : Takes X (upW X.K X.mg E fun y fs _ c => Px y fs c) := tk.imp fun cls d σ H h => ⟨σ, h⟩
section
variable {X : Cx} {E : En} {tg a elt : Expr} {pos : Pos} {Px : Xd}
theorem df_lcX {ifs : List Expr} {scope : Scope} (own : List (Str × Nat)) {dw : DI} {ws : List Nat} {dg : DG} {dt : DT} {de : DE} (tk : Takes X (fun cls d _ H => upY X.K X.mg E Px cls d H)) (hN : X.N.Nodup) (hi : DPI X E tg a dw) (ok : BlkOk X.N X.env.scope scope own)
    (hg : ∀ (s : Shared) (H : Hp) (C : Addr) (cl : List (Str × Addr)) (fp : List Addr), DPG (X.blk s H scope (compEnvC scope cl C X.env) fp) E ws tg dg)
    (ht : ∀ (s : Shared) (H : Hp) (C : Addr) (cl : List (Str × Addr)) (fp : List Addr), DPTs (X.blk s H scope (compEnvC scope cl C X.env) fp) E ifs dt)
    (he : ∀ (s : Shared) (H : Hp) (C : Addr) (cl : List (Str × Addr)) (fp : List Addr) (xe : Value → Shared → Prop), Takes ((X.blk s H scope (compEnvC scope cl C X.env) fp).wish xe) (fun cls d _ H => upY X.K X.mg E Px cls d H) → DPE ((X.blk s H scope (compEnvC scope cl C X.env) fp).wish xe) E elt de)
    (hst : X.stack = X.env :: X.outer := by rfl) (hfr : X.env.frame = some X.env.locals := by rfl)
    (hws : ∀ i ∈ ws, i ∈ own.map (·.2) := by decide) (hc : X.calm = true := by rfl) (hs : ∀ x, foldedSetIterable a X.env x = pure x := by intro _; rfl) :
    DPF X E (.ListComp elt [⟨tg, a, ifs, 0⟩] scope pos) (fLc dw dg dt de (own.map (·.2))) :=
  pe_imp (pe_lcX hst hfr tk hc hN hi ok hg ht he hs) fun _ _ _ h => lcF_up hws h
theorem de_lcX {ifs : List Expr} {scope : Scope} (own : List (Str × Nat)) {dw : DI} {ws : List Nat} {dg : DG} {dt : DT} {de : DE} (tk : Takes X (fun cls d _ H => upY X.K X.mg E Px cls d H)) (hN : X.N.Nodup) (hi : DPI X E tg a dw) (ok : BlkOk X.N X.env.scope scope own)
    (hg : ∀ (s : Shared) (H : Hp) (C : Addr) (cl : List (Str × Addr)) (fp : List Addr), DPG (X.blk s H scope (compEnvC scope cl C X.env) fp) E ws tg dg)
    (ht : ∀ (s : Shared) (H : Hp) (C : Addr) (cl : List (Str × Addr)) (fp : List Addr), DPTs (X.blk s H scope (compEnvC scope cl C X.env) fp) E ifs dt)
    (he : ∀ (s : Shared) (H : Hp) (C : Addr) (cl : List (Str × Addr)) (fp : List Addr) (xe : Value → Shared → Prop), Takes ((X.blk s H scope (compEnvC scope cl C X.env) fp).wish xe) (fun cls d _ H => upY X.K X.mg E Px cls d H) → DPE ((X.blk s H scope (compEnvC scope cl C X.env) fp).wish xe) E elt de)
    (hst : X.stack = X.env :: X.outer := by rfl) (hfr : X.env.frame = some X.env.locals := by rfl)
    (hws : ∀ i ∈ ws, i ∈ own.map (·.2) := by decide) (hc : X.calm = true := by rfl) (hs : ∀ x, foldedSetIterable a X.env x = pure x := by intro _; rfl) :
    DPE X E (.ListComp elt [⟨tg, a, ifs, 0⟩] scope pos) (dLc dw dg dt de (own.map (·.2))) :=
  pe_imp (pe_lcX hst hfr tk hc hN hi ok hg ht he hs) fun _ _ _ h => lc_up hws h
end
section
variable {P : Program} {w : World} {K : PySem.W.Frag} {mg : Str → Option Value} {base : Heap}
theorem defX_ofA {x qual : Str} {st : Stmt} {f : Addr} {fd : FuncData} {N ps : List Str} {k n : Nat} {dt : Xd → DS} (F : Fun K x qual st f fd) (S : FnScope N ps (defScope st)) (hm : mg x = some (.ref f)) (hb : Binds K fd ps []) (hn : ps.length = n)
    (h : ∀ (cdv : Value) (A : Around) (outer : List Env) (s : Shared) (H : Hp) (EX : XK) (E : En) (Px : Xd), Room k (A.deeper (envOfC qual (defScope st) s.heap.objs.size f cdv)) → (A.deeper (envOfC qual (defScope st) s.heap.objs.size f cdv)).guards = some [] →
      Takes (bodyCxX P w K mg base N qual st f cdv A outer s H EX) (fun cls d _ H => upY K mg E Px cls d H) → DPSs (bodyCxX P w K mg base N qual st f cdv A outer s H EX) E (defBody st) (dt Px)) : DefX P w K mg base (k + 1) x n (bodySpecX N.length dt) := by
  refine ⟨f, fd, ps, fnX_of F S (fun vs H Q E q => ?_) (fun cdv A outer s H vs Q EX hr hgd q => ?_), hm, F.kp, hb⟩
  · obtain ⟨g, c, args, P, Px, _, _, ok, _, hl, _⟩ := q
    rw [VOks.len ok, hl, hn]
  · obtain ⟨g, c, args, P', Px, ex, dk, ok, fr, hl, hs, kk, kx⟩ := q
    have tk : Takes (bodyCxX P w K mg base N qual st f cdv A outer s H EX) (fun cls d _ H => EX cls d H) := takes_of rfl rfl rfl rfl
    refine ⟨_, h cdv A outer s H EX ⟨g, H, false⟩ Px hr hgd (tk.imp fun cls d σ H2 z => ?_), g, _, c, _, start_rel ex dk ok fr, hs, fun env' c' g' σ' H' p m r => ?_, fun y c' env' g' σ' H' v p m r o f => ?_, fun _ _ _ _ _ p => p.elim, fun _ _ _ _ _ p => p.elim⟩
    · obtain ⟨_, g2, env2, c2, y, fs, r, xok, px⟩ := z
      exact kx y fs c2 g2 H2 cls d px ⟨⟨r.mo, r.md rfl⟩, r.fr, fun a o e => r.old e, r.nf⟩ r.ex r.dk xok
    · exact kk _ c' g' H' .non p ⟨⟨r.mo, r.md rfl⟩, r.fr, fun a o e => r.old e, r.nf⟩ r.ex r.dk .non trivial
    · exact kk y c' g' H' v p ⟨⟨r.mo, r.md rfl⟩, r.fr, fun a o e => r.old e, r.nf⟩ r.ex r.dk o f
end
end DL
namespace RW
open PySem PySem.Spec PyProof.Rows L2 DL
/-! ### the text -/
def topS (i : Nat) : Stmt := PySem.Challenge.pw_ringwindows_k07_rules_scaled.main.body.getD i (.Pass ⟨0, 0, 0, 0⟩)
abbrev s_scaled : Stmt := topS 7
abbrev s_scaled_rules : Stmt := topS 8
abbrev s__law_deck : Stmt := topS 10
abbrev s__law_draw : Stmt := topS 11
abbrev s__law_same : Stmt := topS 12
abbrev s__law_rule : Stmt := topS 13
abbrev s__law_rules : Stmt := topS 14
abbrev s__law_due : Stmt := topS 15
abbrev s__law_told : Stmt := topS 16
abbrev s_law : Stmt := topS 17
abbrev N_scaled : List Str := ["units", "many"]
theorem sc_scaled : FnScope N_scaled ["units", "many"] (defScope s_scaled) := ⟨rfl, rfl, rfl, by decide +kernel, rfl, by decide +kernel, by decide +kernel⟩
abbrev N_scaled_rules : List Str := ["rules", "many", "first", "size", "least", "most"]
theorem sc_scaled_rules : FnScope N_scaled_rules ["rules", "many"] (defScope s_scaled_rules) := ⟨rfl, rfl, rfl, by decide +kernel, rfl, by decide +kernel, by decide +kernel⟩
abbrev N__law_same : List Str := ["_law_value", "_law_due_here"]
theorem sc__law_same : FnScope N__law_same ["_law_value", "_law_due_here"] (defScope s__law_same) := ⟨rfl, rfl, rfl, by decide +kernel, rfl, by decide +kernel, by decide +kernel⟩
abbrev N__law_rule : List Str := ["_law_deck_here", "_law_n", "_law_first", "_law_size", "_law_least", "_law_mosts", "_law_most"]
theorem sc__law_rule : FnScope N__law_rule ["_law_deck_here", "_law_n"] (defScope s__law_rule) := ⟨rfl, rfl, rfl, by decide +kernel, rfl, by decide +kernel, by decide +kernel⟩
abbrev N__law_rules : List Str := ["_law_deck_here", "_law_n", "_law_many", "_law_k"]
theorem sc__law_rules : FnScope N__law_rules ["_law_deck_here", "_law_n", "_law_many"] (defScope s__law_rules) := ⟨rfl, rfl, rfl, by decide +kernel, rfl, by decide +kernel, by decide +kernel⟩
abbrev N__law_due : List Str := ["_law_rules_here", "_law_many", "_law_found", "_law_rule_here", "_law_least", "_law_most"]
theorem sc__law_due : FnScope N__law_due ["_law_rules_here", "_law_many"] (defScope s__law_due) := ⟨rfl, rfl, rfl, by decide +kernel, rfl, by decide +kernel, by decide +kernel⟩
abbrev N__law_told : List Str := ["_law_rules_here", "_law_many", "e"]
theorem sc__law_told : FnScope N__law_told ["_law_rules_here", "_law_many"] (defScope s__law_told) := ⟨rfl, rfl, rfl, by decide +kernel, rfl, by decide +kernel, by decide +kernel⟩
abbrev N_law : List Str := ["_law_script", "_law_deck_here", "_law_turn", "_law_n", "_law_rules_here", "_law_small", "_law_edge", "_law_some", "_law_many", "_law_before", "_law_due_here", "_law_found", "_law_rule_here", "_law_again"]
theorem sc_law : FnScope N_law ["_law_script"] (defScope s_law) := ⟨rfl, rfl, rfl, by decide +kernel, rfl, by decide +kernel, by decide +kernel⟩
/-! ### what each def is over data -/
abbrev sp__law_draw : DL.Spec := drawSpec
def dt_scaled (Px : Xd) : DS := (sSeq (sIf (tVal (dUn rdIsN (dVar 0))) (sRet (dC .none)) sNx) (sSeq (sIf (tVal (dOp rdGt (dOp rdMul (dVar 0) (dVar 1)) (dC (.int 1000000000)))) (sRaise0 "OutOfRange" (fun y fs _ c => Px y fs c)) sNx) (sRet (dOp rdMul (dVar 0) (dVar 1)))))
def sp_scaled : DL.SpecX := bodySpecX 2 dt_scaled
def dt_scaled_rules (Px : Xd) : DS := (sRet (dCB rdTuple (aCons (dLc (wT (dVar 0)) (gTu 4 (gsCons (gNm 2) (gsCons (gNm 3) (gsCons (gNm 4) (gsCons (gNm 5) gsNil))))) tOn (dTup (aCons (dVar 2) (aCons (dVar 3) (aCons (dCallX 2 sp_scaled (fun y fs _ c => Px y fs c) (aCons (dVar 4) (aCons (dVar 1) aNil))) (aCons (dCallX 2 sp_scaled (fun y fs _ c => Px y fs c) (aCons (dVar 5) (aCons (dVar 1) aNil))) aNil))))) (List.map (·.2) ([("first", 2), ("size", 3), ("least", 4), ("most", 5)] : List (Str × Nat)))) aNil)))
def sp_scaled_rules : DL.SpecX := bodySpecX 6 dt_scaled_rules
def dt__law_same : DS := (sRet (dOp rdEq (dCB rdRepr (aCons (dVar 0) aNil)) (dCB rdRepr (aCons (dVar 1) aNil))))
def sp__law_same : DL.Spec := bodySpec 2 dt__law_same
def dt__law_rule : DS := (sSeq (sPar 2 3 (aCons (dCall (fun xs c P => xs.length = 2 ∧ sp__law_draw xs c P) (aCons (dVar 0) (aCons (dVar 1) aNil))) (aCons (dOp rdAdd (dC (.int 1)) (dCall (fun xs c P => xs.length = 2 ∧ sp__law_draw xs c P) (aCons (dVar 0) (aCons (dVar 1) aNil)))) aNil))) (sSeq (sAsg (dOp rdIx (dLst (aCons (dC (.int 0)) (aCons (dC (.int 1)) (aCons (dCall (fun xs c P => xs.length = 2 ∧ sp__law_draw xs c P) (aCons (dVar 0) (aCons (dC (.int 9)) aNil))) (aCons (dCall (fun xs c P => xs.length = 2 ∧ sp__law_draw xs c P) (aCons (dVar 0) (aCons (dC (.int 40)) aNil))) (aCons (dOp rdPow (dC (.int 10)) (dC (.int 9))) (aCons (dOp rdSub (dOp rdPow (dC (.int 10)) (dC (.int 9))) (dC (.int 2))) aNil))))))) (dCall (fun xs c P => xs.length = 2 ∧ sp__law_draw xs c P) (aCons (dVar 0) (aCons (dC (.int 6)) aNil)))) (gNm 4)) (sSeq (sAsg (dLst (aCons (dC .none) (aCons (dC .none) (aCons (dOp rdAdd (dVar 4) (dCall (fun xs c P => xs.length = 2 ∧ sp__law_draw xs c P) (aCons (dVar 0) (aCons (dC (.int 4)) aNil)))) (aCons (dCall (fun xs c P => xs.length = 2 ∧ sp__law_draw xs c P) (aCons (dVar 0) (aCons (dC (.int 40)) aNil))) (aCons (dOp rdPow (dC (.int 10)) (dC (.int 9))) (aCons (dVar 4) (aCons (dOp rdSub (dVar 4) (dC (.int 1))) aNil)))))))) (gNm 5)) (sSeq (sAsg (dOp rdIx (dVar 5) (dCall (fun xs c P => xs.length = 2 ∧ sp__law_draw xs c P) (aCons (dVar 0) (aCons (dC (.int 7)) aNil)))) (gNm 6)) (sSeq (sIf (tVal (dUn rdNotN (dVar 6))) (sAsg (dCB rdMaxA (aCons (dC (.int 0)) (aCons (dCB rdMinA (aCons (dOp rdPow (dC (.int 10)) (dC (.int 9))) (aCons (dVar 6) aNil))) aNil))) (gNm 6)) sNx) (sRet (dTup (aCons (dVar 2) (aCons (dVar 3) (aCons (dVar 4) (aCons (dVar 6) aNil)))))))))))
def sp__law_rule : DL.Spec := bodySpec 7 dt__law_rule
def dt__law_rules : DS := (sRet (dCB rdTuple (aCons (dLc (wR1 (aCons (dCall (fun xs c P => xs.length = 2 ∧ sp__law_draw xs c P) (aCons (dVar 0) (aCons (dOp rdAdd (dVar 2) (dC (.int 1))) aNil))) aNil)) (gNm 3) tOn (dCall (fun xs c P => xs.length = 2 ∧ sp__law_rule xs c P) (aCons (dVar 0) (aCons (dVar 1) aNil))) (List.map (·.2) ([("_law_k", 3)] : List (Str × Nat)))) aNil)))
def sp__law_rules : DL.Spec := bodySpec 4 dt__law_rules
def dt__law_due : DS := (sSeq (sAsg (dTup aNil) (gNm 2)) (sSeq (sFor (wT (dVar 0)) (gNm 3) (sSeq (sPar 4 5 (aCons (dOp rdMul (dOp rdIx (dVar 3) (dC (.int 2))) (dVar 1)) (aCons (dOp rdIx (dVar 3) (dC (.int 3))) aNil))) (sSeq (sIf (tVal (dUn rdNotN (dVar 5))) (sAsg (dOp rdMul (dVar 5) (dVar 1)) (gNm 5)) sNx) (sSeq (sIf (tVal (dOp rdGt (dCB rdMaxA (aCons (dVar 4) (aCons (dIfE (tVal (dUn rdIsN (dVar 5))) (dC (.int 0)) (dVar 5)) aNil))) (dOp rdPow (dC (.int 10)) (dC (.int 9))))) (sRet (dLst (aCons (dC (.str "range")) aNil))) sNx) (sAsg (dOp rdAddU (dVar 2) (dTup (aCons (dTup (aCons (dOp rdIx (dVar 3) (dC (.int 0))) (aCons (dOp rdIx (dVar 3) (dC (.int 1))) (aCons (dVar 4) (aCons (dVar 5) aNil))))) aNil))) (gNm 2)))))) (sRet (dVar 2))))
def sp__law_due : DL.Spec := bodySpec 6 dt__law_due
def dt__law_told : DS := (sTry 2 ["OutOfRange"] (fun W => (sRet (dCallX 2 sp_scaled_rules W (aCons (dVar 0) (aCons (dVar 1) aNil))))) (fun a x fs => (sRet (dF (fRep (fLst (aCons (dC (.str "range")) aNil)) (dCB rdInt1 (aCons (dAn (dIsX a true (dVar 2)) (dNt (dIsX a false (dVar 2)))) aNil)))))))
def sp__law_told : DL.Spec := bodySpec 3 dt__law_told
def dt_law : DS := (sSeq (sDeck 1 0) (sSeq (sFor (wR1 (aCons (dC (.int 12)) aNil)) (gNm 2) (sSeq (sAsg (dOp rdAdd (dC (.int 1)) (dCall (fun xs c P => xs.length = 2 ∧ sp__law_draw xs c P) (aCons (dVar 1) (aCons (dC (.int 12)) aNil)))) (gNm 3)) (sSeq (sAsg (dCall (fun xs c P => xs.length = 3 ∧ sp__law_rules xs c P) (aCons (dVar 1) (aCons (dVar 3) (aCons (dC (.int 16)) aNil)))) (gNm 4)) (sSeq (sAsg (dCB rdTuple (aCons (dLc (wT (dVar 4)) (gNm 12) (tAn (tVal (dOp rdLt (dOp rdIx (dVar 12) (dC (.int 2))) (dC (.int 50)))) (tVal (dOp rdLt (dOrT (dOp rdIx (dVar 12) (dC (.int 3))) (dC (.int 0))) (dC (.int 50))))) (dVar 12) (List.map (·.2) ([("_law_rule_here", 12)] : List (Str × Nat)))) aNil)) (gNm 5)) (sSeq (sAsg (dTup (aCons (dTup (aCons (dC (.int 0)) (aCons (dC (.int 1)) (aCons (dOp rdPow (dC (.int 10)) (dC (.int 7))) (aCons (dC .none) aNil))))) (aCons (dTup (aCons (dC (.int 0)) (aCons (dC (.int 1)) (aCons (dC (.int 0)) (aCons (dOp rdPow (dC (.int 10)) (dC (.int 7))) aNil))))) aNil))) (gNm 6)) (sFor (wL (dLst (aCons (dVar 4) (aCons (dVar 5) (aCons (dVar 6) (aCons (dTup aNil) (aCons (dTup (aCons (dTup (aCons (dC (.int 0)) (aCons (dC (.int 1)) (aCons (dOp rdAdd (dOp rdPow (dC (.int 10)) (dC (.int 7))) (dC (.int 1))) (aCons (dC .none) aNil))))) aNil)) (aCons (dTup (aCons (dTup (aCons (dC (.int 0)) (aCons (dC (.int 1)) (aCons (dC (.int 0)) (aCons (dOp rdAdd (dOp rdPow (dC (.int 10)) (dC (.int 7))) (dC (.int 1))) aNil))))) aNil)) aNil)))))))) (gNm 7) (sFor (wL (dLst (aCons (dC (.int 1)) (aCons (dC (.int 100)) (aCons (dOp rdAdd (dC (.int 1)) (dCall (fun xs c P => xs.length = 2 ∧ sp__law_draw xs c P) (aCons (dVar 1) (aCons (dC (.int 100)) aNil)))) (aCons (dC (.int 99)) aNil)))))) (gNm 8) (sSeq (sPar 9 10 (aCons (dCB rdRepr (aCons (dVar 7) aNil)) (aCons (dCall (fun xs c P => xs.length = 2 ∧ sp__law_due xs c P) (aCons (dVar 7) (aCons (dVar 8) aNil))) aNil))) (sSeq (sAsg (dLc (wR1 (aCons (dC (.int 2)) aNil)) (gNm 13) tOn (dCall (fun xs c P => xs.length = 2 ∧ sp__law_told xs c P) (aCons (dVar 7) (aCons (dVar 8) aNil))) (List.map (·.2) ([("_law_again", 13)] : List (Str × Nat)))) (gNm 11)) (sIf (tOo (tNt (tVal (dCall (fun xs c P => xs.length = 2 ∧ sp__law_same xs c P) (aCons (dVar 11) (aCons (dLst (aCons (dVar 10) (aCons (dVar 10) aNil))) aNil))))) (tVal (dOp rdNe (dCB rdRepr (aCons (dVar 7) aNil)) (dVar 9)))) (sRet (dC (.bool false))) sNx)))))))))) (sRet (dC (.bool true)))))
def sp_law : DL.Spec := bodySpec 14 dt_law
/-! ### each def keeps that -/
section
variable {P : Program} {w : World} {K : PySem.W.Frag} {mg : Str → Option Value} {base : Heap}
theorem ok_scaled {f : Addr} {fd : FuncData} (F : Fun K "scaled" "scaled" s_scaled f fd) (hm : mg "scaled" = some (.ref f)) (hb : Binds K fd ["units", "many"] []) {t_LIMIT : Tok} (g_LIMIT : mg "LIMIT" = some (.int 1000000000 t_LIMIT)) (x0_OutOfRange : EX0 K mg "OutOfRange") : DefX P w K mg base 3 "scaled" 2 sp_scaled := by
  have nd := sc_scaled.nd
  refine defX_of (N := N_scaled) (dt := dt_scaled) F sc_scaled hm hb rfl (fun cdv A outer s H EX E Px hr hgd tk => ?_)
  exact (ds_cons (ds_if (dt_isN (de_var 0)) (ds_one (ds_ret de_non)) ds_nil) (ds_cons (ds_if (dt_gt (de_mul (de_var 0) (de_var 1)) (de_glob (i := 1000000000) g_LIMIT ⟨_, rfl⟩)) (ds_one (ds_raise0 x0_OutOfRange tk)) ds_nil) (ds_one (ds_ret (de_mul (de_var 0) (de_var 1))))))
theorem ok_scaled_rules {f : Addr} {fd : FuncData} (F : Fun K "scaled_rules" "scaled_rules" s_scaled_rules f fd) (hm : mg "scaled_rules" = some (.ref f)) (hb : Binds K fd ["rules", "many"] []) (m_tuple : mg "tuple" = none) (d_scaled : DefX P w K mg base 3 "scaled" 2 sp_scaled) : DefX P w K mg base 4 "scaled_rules" 2 sp_scaled_rules := by
  have nd := sc_scaled_rules.nd
  refine defX_ofA (N := N_scaled_rules) (dt := dt_scaled_rules) F sc_scaled_rules hm hb rfl (fun cdv A outer s H EX E Px hr hgd tkY => ?_)
  have tk := tkA tkY
  exact (ds_one (ds_ret (de_callT call_tuple_of cd_tuple m_tuple (by decide +kernel) (da_cons (de_lcX [("first", 2), ("size", 3), ("least", 4), ("most", 5)] tkY nd (dw_tup (de_var 0)) (blkOk_by (N := N_scaled_rules) (sc := defScope s_scaled_rules) (by decide +kernel)) (fun _ _ _ _ _ => (dg_tup (dgs_cons (dg_name 2 nd) (dgs_cons (dg_name 3 nd) (dgs_cons (dg_name 4 nd) (dgs_cons (dg_name 5 nd) dgs_nil)))))) (fun _ _ _ _ _ => dts_nil) (fun _ _ _ _ _ xe tkZ => have tk := tkA tkZ; (de_tup (da_cons (de_var 2) (da_cons (de_var 3) (da_cons (de_callX d_scaled (hr.mono (by decide)) hgd tk (da_cons (de_var 4) (da_cons (de_var 1) da_nil))) (da_cons (de_callX d_scaled (hr.mono (by decide)) hgd tk (da_cons (de_var 5) (da_cons (de_var 1) da_nil))) da_nil))))))) da_nil))))
theorem ok__law_same {f : Addr} {fd : FuncData} (F : Fun K "_law_same" "_law_same" s__law_same f fd) (hm : mg "_law_same" = some (.ref f)) (hb : Binds K fd ["_law_value", "_law_due_here"] []) (m_repr : mg "repr" = none) : Def P w K mg base 1 "_law_same" 2 sp__law_same := by
  have nd := sc__law_same.nd
  refine def_of (N := N__law_same) (dt := dt__law_same) F sc__law_same hm hb rfl (fun cdv A outer s H E hr hgd => ?_)
  exact (ds_one (ds_ret (de_eq hr (de_callB (cr_repr hgd hr.units) cd_repr m_repr (by decide +kernel) (da_cons (de_var 0) da_nil)) (de_callB (cr_repr hgd hr.units) cd_repr m_repr (by decide +kernel) (da_cons (de_var 1) da_nil)))))
theorem ok__law_rule {f : Addr} {fd : FuncData} (F : Fun K "_law_rule" "_law_rule" s__law_rule f fd) (hm : mg "_law_rule" = some (.ref f)) (hb : Binds K fd ["_law_deck_here", "_law_n"] []) (m_max : mg "max" = none) (m_min : mg "min" = none) (d__law_draw : Def P w K mg base 1 "_law_draw" 2 sp__law_draw) : Def P w K mg base 2 "_law_rule" 2 sp__law_rule := by
  have nd := sc__law_rule.nd
  refine def_of (N := N__law_rule) (dt := dt__law_rule) F sc__law_rule hm hb rfl (fun cdv A outer s H E hr hgd => ?_)
  exact (ds_cons (ds_par 2 3 nd (da_cons (de_call d__law_draw (hr.mono (by decide)) hgd (da_cons (de_var 0) (da_cons (de_var 1) da_nil))) (da_cons (de_add de_int (de_call d__law_draw (hr.mono (by decide)) hgd (da_cons (de_var 0) (da_cons (de_var 1) da_nil)))) da_nil))) (ds_cons (ds_set 4 nd (de_item (de_lst (da_cons de_int (da_cons de_int (da_cons (de_call d__law_draw (hr.mono (by decide)) hgd (da_cons (de_var 0) (da_cons de_int da_nil))) (da_cons (de_call d__law_draw (hr.mono (by decide)) hgd (da_cons (de_var 0) (da_cons de_int da_nil))) (da_cons (de_pow de_int de_int) (da_cons (de_sub (de_pow de_int de_int) de_int) da_nil))))))) (de_call d__law_draw (hr.mono (by decide)) hgd (da_cons (de_var 0) (da_cons de_int da_nil))))) (ds_cons (ds_set 5 nd (de_lst (da_cons de_non (da_cons de_non (da_cons (de_add (de_var 4) (de_call d__law_draw (hr.mono (by decide)) hgd (da_cons (de_var 0) (da_cons de_int da_nil)))) (da_cons (de_call d__law_draw (hr.mono (by decide)) hgd (da_cons (de_var 0) (da_cons de_int da_nil))) (da_cons (de_pow de_int de_int) (da_cons (de_var 4) (da_cons (de_sub (de_var 4) de_int) da_nil))))))))) (ds_cons (ds_set 6 nd (de_item (de_var 5) (de_call d__law_draw (hr.mono (by decide)) hgd (da_cons (de_var 0) (da_cons de_int da_nil))))) (ds_cons (ds_if (dt_notN (de_var 6)) (ds_one (ds_set 6 nd (de_callB (cr_or (call_max2 rfl) (cr_max rfl)) cd_maxA m_max (by decide +kernel) (da_cons de_int (da_cons (de_callB (cr_or (call_min2 rfl) (cr_min rfl)) cd_minA m_min (by decide +kernel) (da_cons (de_pow de_int de_int) (da_cons (de_var 6) da_nil))) da_nil))))) ds_nil) (ds_one (ds_ret (de_tup (da_cons (de_var 2) (da_cons (de_var 3) (da_cons (de_var 4) (da_cons (de_var 6) da_nil))))))))))))
theorem ok__law_rules {f : Addr} {fd : FuncData} (F : Fun K "_law_rules" "_law_rules" s__law_rules f fd) (hm : mg "_law_rules" = some (.ref f)) (hb : Binds K fd ["_law_deck_here", "_law_n", "_law_many"] []) (m_range : mg "range" = none) (m_tuple : mg "tuple" = none) (d__law_draw : Def P w K mg base 1 "_law_draw" 2 sp__law_draw) (d__law_rule : Def P w K mg base 2 "_law_rule" 2 sp__law_rule) : Def P w K mg base 3 "_law_rules" 3 sp__law_rules := by
  have nd := sc__law_rules.nd
  refine def_of (N := N__law_rules) (dt := dt__law_rules) F sc__law_rules hm hb rfl (fun cdv A outer s H E hr hgd => ?_)
  exact (ds_one (ds_ret (de_callT call_tuple_of cd_tuple m_tuple (by decide +kernel) (da_cons (de_lc [("_law_k", 3)] nd (dw_r1 (da_cons (de_call d__law_draw (hr.mono (by decide)) hgd (da_cons (de_var 0) (da_cons (de_add (de_var 2) de_int) da_nil))) da_nil) m_range) (blkOk_by (N := N__law_rules) (sc := defScope s__law_rules) (by decide +kernel)) (fun _ _ _ _ _ => (dg_name 3 nd)) (fun _ _ _ _ _ => dts_nil) (fun _ _ _ _ _ => (de_call d__law_rule (hr.mono (by decide)) hgd (da_cons (de_var 0) (da_cons (de_var 1) da_nil))))) da_nil))))
theorem ok__law_due {f : Addr} {fd : FuncData} (F : Fun K "_law_due" "_law_due" s__law_due f fd) (hm : mg "_law_due" = some (.ref f)) (hb : Binds K fd ["_law_rules_here", "_law_many"] []) (m_max : mg "max" = none) : Def P w K mg base 1 "_law_due" 2 sp__law_due := by
  have nd := sc__law_due.nd
  refine def_of (N := N__law_due) (dt := dt__law_due) F sc__law_due hm hb rfl (fun cdv A outer s H E hr hgd => ?_)
  exact (ds_cons (ds_set 2 nd (de_tup da_nil)) (ds_cons (ds_for (dw_tup (de_var 0)) (dg_name 3 nd) (ds_cons (ds_par 4 5 nd (da_cons (de_mul (de_item (de_var 3) de_int) (de_var 1)) (da_cons (de_item (de_var 3) de_int) da_nil))) (ds_cons (ds_if (dt_notN (de_var 5)) (ds_one (ds_set 5 nd (de_mul (de_var 5) (de_var 1)))) ds_nil) (ds_cons (ds_if (dt_gt (de_callB (cr_or (call_max2 rfl) (cr_max rfl)) cd_maxA m_max (by decide +kernel) (da_cons (de_var 4) (da_cons (de_ifE (dt_isN (de_var 5)) de_int (de_var 5)) da_nil))) (de_pow de_int de_int)) (ds_one (ds_ret (de_lst (da_cons de_str da_nil)))) ds_nil) (ds_one (ds_set 2 nd (de_addU (de_var 2) (de_tup (da_cons (de_tup (da_cons (de_item (de_var 3) de_int) (da_cons (de_item (de_var 3) de_int) (da_cons (de_var 4) (da_cons (de_var 5) da_nil))))) da_nil))))))))) (ds_one (ds_ret (de_var 2)))))
theorem ok__law_told {f : Addr} {fd : FuncData} (F : Fun K "_law_told" "_law_told" s__law_told f fd) (hm : mg "_law_told" = some (.ref f)) (hb : Binds K fd ["_law_rules_here", "_law_many"] []) {C_RingError : Addr} {C_OutOfRange : Addr} {C_NotAlike : Addr} {C_NotDivisible : Addr} (m_int : mg "int" = none) (m_isinstance : mg "isinstance" = none) (d_scaled_rules : DefX P w K mg base 4 "scaled_rules" 2 sp_scaled_rules) (gC_RingError : mg "RingError" = some (.ref C_RingError)) (gC_OutOfRange : mg "OutOfRange" = some (.ref C_OutOfRange)) (exm_OutOfRange_RingError : PySem.W.exmOne K (.ref C_OutOfRange) (.ref C_RingError) = some true) (xis_OutOfRange : XIs K C_OutOfRange) (kit_OutOfRange_OutOfRange : PySem.W.kitOne K (.ref C_OutOfRange) (.ref C_OutOfRange) = some true) (kit2_OutOfRange_NotAlike_NotDivisible : PySem.W.kitAny K (.ref C_OutOfRange) [.ref C_NotAlike, .ref C_NotDivisible] = some false) (gC_NotAlike : mg "NotAlike" = some (.ref C_NotAlike)) (gC_NotDivisible : mg "NotDivisible" = some (.ref C_NotDivisible)) : Def P w K mg base 5 "_law_told" 2 sp__law_told := by
  have nd := sc__law_told.nd
  refine defT_of (N := N__law_told) (dt := dt__law_told) F sc__law_told hm hb rfl (fun cdv A outer s H E hr hgd ht => ?_)
  exact (ds_one (ds_try nd gC_RingError (fun x hx C h => by cases List.mem_singleton.mp hx; cases (gC_OutOfRange.symm.trans h); exact exm_OutOfRange_RingError) ht (fun E W pn xe tk => (ds_one (ds_ret (de_callX d_scaled_rules (hr.mono (by decide)) hgd tk (da_cons (de_var 0) (da_cons (de_var 1) da_nil)))))) (fun a oe d pn x fs E' C hxs hmC hz hfl xok => by cases List.mem_singleton.mp hxs; cases (gC_OutOfRange.symm.trans hmC); exact (ds_one (ds_ret (de_f (df_rep (df_lst (da_cons de_str da_nil)) (de_callT call_int1 cd_int1 m_int (by decide +kernel) (da_cons (de_and (de_isX xis_OutOfRange hz hfl xok kit_OutOfRange_OutOfRange gC_OutOfRange m_isinstance (de_var 2)) (de_one (de_not (de_isXT xis_OutOfRange hz hfl xok kit2_OutOfRange_NotAlike_NotDivisible gC_NotAlike gC_NotDivisible m_isinstance (de_var 2))))) da_nil)))))))))
theorem ok_law {f fK : Addr} {fd fdK : FuncData} (F : Fun K "law" "law" s_law f fd) (fnDeck : FnG P w K mg base 1 fK fdK ["_law_script"] (spDeck K)) (mDeck : mg "_law_deck" = some (.ref fK)) (kDeck : PySem.W.keepIn K (.ref fK) = true) (bDeck : Binds K fdK ["_law_script"] []) (m_range : mg "range" = none) (m_repr : mg "repr" = none) (m_tuple : mg "tuple" = none) (d__law_draw : Def P w K mg base 1 "_law_draw" 2 sp__law_draw) (d__law_due : Def P w K mg base 1 "_law_due" 2 sp__law_due) (d__law_rules : Def P w K mg base 3 "_law_rules" 3 sp__law_rules) (d__law_same : Def P w K mg base 1 "_law_same" 2 sp__law_same) (d__law_told : Def P w K mg base 5 "_law_told" 2 sp__law_told) : FnG P w K mg base 6 f fd ["_law_script"] (spTop K sp_law) := by
  have nd := sc_law.nd
  refine top_of (N := N_law) (dt := dt_law) F sc_law rfl (fun cdv A outer s H E ht hr hgd => ?_)
  exact (ds_cons (ds_deck 1 0 fnDeck (hr.mono (by decide)) hgd mDeck kDeck bDeck nd ht (pv 0)) (ds_cons (ds_for (dw_r1 (da_cons de_int da_nil) m_range) (dg_name 2 nd) (ds_cons (ds_set 3 nd (de_add de_int (de_call d__law_draw (hr.mono (by decide)) hgd (da_cons (de_var 1) (da_cons de_int da_nil))))) (ds_cons (ds_set 4 nd (de_call d__law_rules (hr.mono (by decide)) hgd (da_cons (de_var 1) (da_cons (de_var 3) (da_cons de_int da_nil))))) (ds_cons (ds_set 5 nd (de_callT call_tuple_of cd_tuple m_tuple (by decide +kernel) (da_cons (de_lc [("_law_rule_here", 12)] nd (dw_tup (de_var 4)) (blkOk_by (N := N_law) (sc := defScope s_law) (by decide +kernel)) (fun _ _ _ _ _ => (dg_name 12 nd)) (fun _ _ _ _ _ => (dts_one (dt_w (dw_and (dt_lt (de_item (de_var 12) de_int) de_int) (dw_and1 (dt_lt (de_orT (de_item (de_var 12) de_int) (de_one de_int)) de_int)))))) (fun _ _ _ _ _ => (de_var 12))) da_nil))) (ds_cons (ds_set 6 nd (de_tup (da_cons (de_tup (da_cons de_int (da_cons de_int (da_cons (de_pow de_int de_int) (da_cons de_non da_nil))))) (da_cons (de_tup (da_cons de_int (da_cons de_int (da_cons de_int (da_cons (de_pow de_int de_int) da_nil))))) da_nil)))) (ds_one (ds_for (dw_list (de_lst (da_cons (de_var 4) (da_cons (de_var 5) (da_cons (de_var 6) (da_cons (de_tup da_nil) (da_cons (de_tup (da_cons (de_tup (da_cons de_int (da_cons de_int (da_cons (de_add (de_pow de_int de_int) de_int) (da_cons de_non da_nil))))) da_nil)) (da_cons (de_tup (da_cons (de_tup (da_cons de_int (da_cons de_int (da_cons de_int (da_cons (de_add (de_pow de_int de_int) de_int) da_nil))))) da_nil)) da_nil)))))))) (dg_name 7 nd) (ds_one (ds_for (dw_list (de_lst (da_cons de_int (da_cons de_int (da_cons (de_add de_int (de_call d__law_draw (hr.mono (by decide)) hgd (da_cons (de_var 1) (da_cons de_int da_nil)))) (da_cons de_int da_nil)))))) (dg_name 8 nd) (ds_cons (ds_par 9 10 nd (da_cons (de_callB (cr_repr hgd hr.units) cd_repr m_repr (by decide +kernel) (da_cons (de_var 7) da_nil)) (da_cons (de_call d__law_due (hr.mono (by decide)) hgd (da_cons (de_var 7) (da_cons (de_var 8) da_nil))) da_nil))) (ds_cons (ds_setLc 11 [("_law_again", 13)] nd (dw_r1 (da_cons de_int da_nil) m_range) (blkOk_by (N := N_law) (sc := defScope s_law) (by decide +kernel)) (fun _ _ _ _ _ => (dg_name 13 nd)) (fun _ _ _ _ _ => dts_nil) (fun _ _ _ _ _ => (de_call d__law_told (hr.mono (by decide)) hgd (da_cons (de_var 7) (da_cons (de_var 8) da_nil)))) (sw_true rfl rfl rfl (by decide +kernel))) (ds_one (ds_if (dt_w (dw_or (dt_not (dt_val (de_call d__law_same (hr.mono (by decide)) hgd (da_cons (de_var 11) (da_cons (de_lst (da_cons (de_var 10) (da_cons (de_var 10) da_nil))) da_nil))))) (dw_or1 (dt_ne hr (de_callB (cr_repr hgd hr.units) cd_repr m_repr (by decide +kernel) (da_cons (de_var 7) da_nil)) (de_var 9))))) (ds_one (ds_ret de_bl)) ds_nil))))))))))))) (ds_one (ds_ret de_bl))))
end
/-! ### the deck and its draws -/
theorem sc__law_draw : FnScope ["_law_deck_here", "_law_limit", "_law_cell", "_law_index"] ["_law_deck_here", "_law_limit"] (defScope s__law_draw) := ⟨rfl, rfl, rfl, by decide +kernel, rfl, by decide +kernel, by decide +kernel⟩
theorem sc__law_deck : FnScope ["_law_script", "_law_cell"] ["_law_script"] (defScope s__law_deck) := ⟨rfl, rfl, rfl, by decide +kernel, rfl, by decide +kernel, by decide +kernel⟩
theorem nn_set {ns : List Int} {j : Nat} {z : Int} (h : ∀ n ∈ ns, 0 ≤ n) (hz : 0 ≤ z) : ∀ n ∈ ns.set j z, 0 ≤ n := fun n hn => by
  rcases List.mem_or_eq_of_mem_set hn with e | e
  · exact h n e
  · rw [e]
    exact hz
theorem log_small {m : Int} (h0 : 0 < m) (h : m < 2 ^ 200) : m.natAbs.log2 < 9000 := by
  have h1 : m.natAbs < 2 ^ 200 := by omega
  have h2 : m.natAbs.log2 < 200 := (Nat.log2_lt (by omega)).mpr h1
  omega
section
variable {P : Program} {w : World} {K : PySem.W.Frag} {mg : Str → Option Value} {base : Heap}
theorem ok__law_draw {f : Addr} {fd : FuncData} (F : Fun K "_law_draw" "_law_draw" s__law_draw f fd) (hm : mg "_law_draw" = some (.ref f)) (hb : Binds K fd ["_law_deck_here", "_law_limit"] []) (m_len : mg "len" = none) : Def P w K mg base 1 "_law_draw" 2 drawSpec := by
  have nd := sc__law_draw.nd
  refine ⟨f, fd, _, fnG_of F sc__law_draw (fun vs H Q E q => ?_) (fun cdv A outer s H vs Q hr hgd q => ?_), hm, F.kp, hb⟩
  · obtain ⟨g, c, args, P, _, _, ok, _, hl, _⟩ := q
    rw [VOks.len ok, hl]
    rfl
  · obtain ⟨g, c, args, P', ex, dk, ok, fr, hl, hs, kk⟩ := q
    unfold drawSpec at hs
    split at hs
    case h_2 => exact hs.elim
    rename_i m
    obtain ⟨hm0, hm1, hc, hP⟩ := hs
    match vs, ok with
    | [v, u], ok =>
    obtain ⟨⟨p, q, hdk, rfl⟩, hu, _⟩ := ok
    have hu := dp_int hu
    subst hu
    obtain ⟨hpq, fp, fq, ns, h0, h63, hq, ys, hp, hy⟩ := dk p q hdk
    have hy : ys = [.ref q, .int (c : Int)] := hy
    subst hy
    refine ⟨_, pss_cons (ps_asg (pe_op op_add (pe_ix ix_list (pv 0) pe_int (fun _ _ => rfl)) pe_int) (pg_sub (pv 0) pe_int set_list))
      (pss_cons (ps_asg (pe_tup (pa_cons pe_int (pa_cons (pe_un un_neg pe_int) pa_nil))) (pg_tup rfl (pgs_cons (pg_name (i := 2) nd rfl (.inl rfl)) (pgs_cons (pg_name (i := 3) nd rfl (.inl rfl)) pgs_nil))))
      (pss_cons (ps_if (pt_cmpR op_gt (pe_callB call_len_seq rfl m_len PySem.boot_len (pa_cons (pe_ix ix_list (pv 0) pe_int (fun _ _ => rfl)) pa_nil)) pe_int (nomark _))
          (pss_cons (ps_set (i := 3) nd rfl (.inl rfl) (pe_op op_mod (pe_ix ix_list (pv 0) pe_int (fun _ _ => rfl)) (pe_callB call_len_seq rfl m_len PySem.boot_len (pa_cons (pe_ix ix_list (pv 0) pe_int (fun _ _ => rfl)) pa_nil))))
            (pss_one (ps_set (i := 2) nd rfl (.inl rfl) (pe_ix ix_list (pe_ix ix_list (pv 0) pe_int (fun _ _ => rfl)) (pv 3) (fun _ _ => rfl)))))
          pss_nil)
      (pss_cons (ps_if (pt_cmpR op_ge (pv 2) (pe_op op_pow pe_int pe_int) (nomark _))
          (pss_cons (ps_asg (pe_op op_fdivW (pv 2) (pv 1)) (pg_sub (pe_ix ix_list (pv 0) pe_int (fun _ _ => rfl)) (pv 3) set_list))
            (pss_one (ps_ret (pe_op op_mod (pv 2) (pv 1)))))
          pss_nil)
      (pss_one (ps_ret (pe_op op_mod (pe_op op_fdiv (pe_op op_mod (pe_op op_pow (pe_op op_add (pe_op op_add (pe_op op_mod (pv 2) pe_int) (pe_op op_mul pe_int (pe_ix ix_list (pv 0) pe_int (fun _ _ => rfl)))) pe_int) pe_int) pe_int) pe_int) (pv 1))))))), ?_⟩
    refine ⟨.ref p, rfl, p, _, 1, .int (c : Int), rfl, rfl, .of hp, rfl, (c : Int), 1, rfl, rfl, .ref p, rfl, p, _, 1, 1, rfl, rfl, hp, rfl, ?_⟩
    have hp1 : upd H p (.lst ([V.ref q, .int (c : Int)].set 1 (.int ((c : Int) + 1)))) p = some (.lst [.ref q, .int ((c : Int) + 1)]) := upd_same
    have hq1 : upd H p (.lst ([V.ref q, .int (c : Int)].set 1 (.int ((c : Int) + 1)))) q = some (.lst (ns.map V.int)) := by
      rw [upd_ne hpq.symm]
      exact hq
    have hs1 : ∀ b, b ≠ p → b ≠ q → upd H p (.lst ([V.ref q, .int (c : Int)].set 1 (.int ((c : Int) + 1)))) b = H b := fun b h _ => upd_ne h
    generalize upd H p (.lst ([V.ref q, .int (c : Int)].set 1 (.int ((c : Int) + 1)))) = H1 at hp1 hq1 hs1 ⊢
    -- cell, index = 0, -1: a pair that nobody keeps
    refine ⟨1, rfl, by show 2 ≤ sizeLine; decide, fun T hT => ⟨T, _, rfl, .of upd_same, rfl, .int 0, _, rfl, .int (-1), _, rfl, rfl, ?_⟩⟩
    have hp2 : upd H1 T (.tup [.int 0, .int (-1)]) p = some (.lst [.ref q, .int ((c : Int) + 1)]) := by
      rw [upd_ne (ne_of_none hp1 hT)]
      exact hp1
    have hq2 : upd H1 T (.tup [.int 0, .int (-1)]) q = some (.lst (ns.map V.int)) := by
      rw [upd_ne (ne_of_none hq1 hT)]
      exact hq1
    have hs2 : ∀ b o, b ≠ p → b ≠ q → H b = some o → upd H1 T (.tup [.int 0, .int (-1)]) b = some o := fun b o n1 n2 e => by
      have e1 : H1 b = some o := by
        rw [hs1 b n1 n2]
        exact e
      rw [upd_ne (ne_of_none e1 hT)]
      exact e1
    generalize upd H1 T (.tup [.int 0, .int (-1)]) = H2 at hp2 hq2 hs2 ⊢
    have pw : ∀ cell : Int, CPow (cell % 2147483587 + 7919 * ((c : Int) + 1) + 1) 5 := fun cell => ⟨by decide, by decide, by omega⟩
    have md : ∀ z : Int, 0 ≤ z % m ∧ z % m < m := fun z => ⟨Int.emod_nonneg _ (by omega), Int.emod_lt_of_pos _ hm0⟩
    have out : ∀ (z : Int) (ms : List Int) (H3 : Hp), (∀ n ∈ ms, 0 ≤ n) → ms.length ≤ 63 → H3 q = some (.lst (ms.map V.int)) → H3 p = some (.lst [.ref q, .int ((c : Int) + 1)]) → (∀ b o, b ≠ p → b ≠ q → H b = some o → H3 b = some o) → Q (.int (z % m)) H3 := fun z ms H3 a0 a63 aq ap as => by
      obtain ⟨k1, k2, k3⟩ := deck_after (c := c + 1) ex hdk hpq fp fq as a0 a63 aq ap (by show [V.ref q, .int ((c : Int) + 1)] = [V.ref q, .int ((c + 1 : Nat) : Int)]; simp)
      exact kk _ (c + 1) g H3 _ (hP _ (md z).1 (md z).2) k1 k2 k3 (.int _) trivial
    -- len(deck[0]) > 0
    refine ⟨.ref p, rfl, p, _, 0, .ref q, rfl, rfl, .of hp2, rfl, q, _, rfl, .inl (.of hq2), _, 0, rfl, rfl, _, rfl, ite2 (fun e => ?_) (fun e => ?_)⟩
    · have hpos : 0 < ns.length := by
        have := of_decide_eq_true e
        rw [List.length_map] at this
        omega
      obtain ⟨j, hj, hlt⟩ : ∃ j : Nat, ((c : Int) + 1) % ((ns.map V.int).length : Int) = (j : Int) ∧ j < ns.length := ⟨(c + 1) % ns.length, by rw [List.length_map]; simp, Nat.mod_lt _ hpos⟩
      obtain ⟨cell, hget, hcell⟩ : ∃ cell : Int, (ns.map V.int)[j]? = some (.int cell) ∧ 0 ≤ cell := ⟨ns[j], by rw [List.getElem?_map, List.getElem?_eq_getElem hlt]; rfl, h0 _ (List.getElem_mem hlt)⟩
      refine ⟨.ref p, rfl, p, _, 1, _, rfl, rfl, .of hp2, rfl, .ref p, rfl, p, _, 0, .ref q, rfl, rfl, .of hp2, rfl, q, _, rfl, .inl (.of hq2), _, _, rfl, rfl, (by rw [List.length_map]; omega), ?_⟩
      refine ⟨.ref p, rfl, p, _, 0, .ref q, rfl, rfl, .of hp2, rfl, _, rfl, q, _, _, .int cell, rfl, rfl, .of hq2, at_of hj hget, ?_⟩
      -- cell >= 10 ** 18
      refine ⟨_, rfl, 10, 18, rfl, rfl, ⟨by decide, by decide, by decide⟩, _, _, rfl, rfl, _, rfl, ite2 (fun e2 => ?_) (fun e2 => ?_)⟩
      · have hdiv : 0 ≤ cell / m := Int.ediv_nonneg hcell (by omega)
        refine ⟨_, rfl, _, rfl, _, _, rfl, rfl, ⟨hm0, log_small hm0 hm1⟩, .ref p, rfl, p, _, 0, .ref q, rfl, rfl, .of hp2, rfl, _, rfl, q, _, _, j, rfl, rfl, hq2, ?_, ?_⟩
        · rw [hj]
          unfold ixN
          rw [List.length_map, if_pos (by omega), if_pos (by omega)]
          rfl
        · refine ⟨_, rfl, _, rfl, _, _, rfl, rfl, hm0, ?_⟩
          refine out cell (ns.set j (cell / m)) _ (nn_set h0 hdiv) (by rw [List.length_set]; exact h63) ?_ ?_ ?_
          · rw [upd_same, List.map_set]
          · rw [upd_ne hpq]
            exact hp2
          · intro b o n1 n2 e3
            rw [upd_ne n2]
            exact hs2 b o n1 n2 e3
      · refine ⟨_, rfl, _, 2147483587, rfl, rfl, by show (0 : Int) < 2147483587; decide, .ref p, rfl, p, _, 1, _, rfl, rfl, .of hp2, rfl, 7919, _, rfl, rfl, .inl ⟨by decide, by decide⟩, _, _, rfl, rfl, _, 1, rfl, rfl, _, 5, rfl, rfl, ?_, _, 2147483647, rfl, rfl, by show (0 : Int) < 2147483647; decide, _, 7, rfl, rfl, ⟨by decide, by decide⟩, _, rfl, _, m, rfl, rfl, hm0, ?_⟩
        · exact pw cell
        · exact out _ ns H2 h0 h63 hq2 hp2 hs2
    · -- cell = 0
      refine ⟨.int 0, rfl, 10, 18, rfl, rfl, ⟨by decide, by decide, by decide⟩, _, _, rfl, rfl, _, rfl, ite2 (fun e2 => ?_) (fun e2 => ?_)⟩
      · exact absurd e2 (by decide)
      · refine ⟨_, rfl, _, 2147483587, rfl, rfl, by show (0 : Int) < 2147483587; decide, .ref p, rfl, p, _, 1, _, rfl, rfl, .of hp2, rfl, 7919, _, rfl, rfl, .inl ⟨by decide, by decide⟩, _, _, rfl, rfl, _, 1, rfl, rfl, _, 5, rfl, rfl, ?_, _, 2147483647, rfl, rfl, by show (0 : Int) < 2147483647; decide, _, 7, rfl, rfl, ⟨by decide, by decide⟩, _, rfl, _, m, rfl, rfl, hm0, ?_⟩
        · exact pw 0
        · exact out _ ns H2 h0 h63 hq2 hp2 hs2
theorem ok__law_deck {f : Addr} {fd : FuncData} (F : Fun K "_law_deck" "_law_deck" s__law_deck f fd) (m_abs : mg "abs" = none) : FnG P w K mg base 1 f fd ["_law_script"] (spDeck K) := by
  have nd := sc__law_deck.nd
  refine fnG_of F sc__law_deck (fun vs H Q E q => ?_) (fun cdv A outer s H vs Q hr hgd q => ?_)
  · obtain ⟨a, ns, rfl, _⟩ := q
    rfl
  · obtain ⟨a, ns, rfl, hS, hlen, kk⟩ := q
    refine ⟨_, pss_one (ps_ret (pe_lst (pa_cons (pe_lc (own := [("_law_cell", 1)]) (g := gName 1) (tt := tYes) rfl nd (pi_list (pe_slice sl_list (pv 0) po_none (po_some pe_int))) (blkOk_by (N := ["_law_script", "_law_cell"]) (sc := defScope s__law_deck) (by decide +kernel))
        (fun _ _ _ _ _ => pg_name (i := 1) nd rfl (Or.inl rfl)) (fun _ _ _ _ _ => pts_nil) (fun _ _ _ _ _ => pe_callB call_abs rfl m_abs (by decide +kernel) (pa_cons (pv 1) pa_nil))) (pa_cons pe_int pa_nil)))), ?_⟩
    refine ⟨.ref a, rfl, 63, rfl, a, _, rfl, hS, fun S hSn => ?_⟩
    have sm0 : Same H (upd H S (.lst (cutV (ns.map V.int) none (some 63)))) := fun b o e => by
      rw [upd_ne (ne_of_none e hSn)]
      exact e
    have hS1 : upd H S (.lst (cutV (ns.map V.int) none (some 63))) S = some (.lst (cutV (ns.map V.int) none (some 63))) := upd_same
    have hcut : cutV (ns.map V.int) none (some 63) = ns.map V.int := by
      unfold cutV
      rw [HT.sIx_none, show HT.sIx (ns.map V.int).length (ns.map V.int).length (some 63) = min 63 (ns.map V.int).length from HT.sIx_nat _ _ 63]
      rw [List.length_map, Nat.min_eq_right hlen]
      show List.take ns.length (List.map V.int ns) = List.map V.int ns
      exact List.take_of_length_le (by rw [List.length_map]; exact Nat.le_refl _)
    rw [hcut] at hS1 sm0 ⊢
    generalize upd H S (.lst (ns.map V.int)) = H1 at hS1 sm0 ⊢
    refine ⟨S, rfl, ⟨_, .of hS1⟩, fun Dl hD => ?_⟩
    have abs_nn : ∀ n : Int, (if n < 0 then -n else n) = (n.natAbs : Int) := fun n => by
      split <;> omega
    refine lc_list (xs := ns.map V.int) (fun i H2 => H2 Dl = some (.lst ((ns.take i).map fun n => V.int n.natAbs)) ∧ ∀ b o, H1 b = some o → H2 b = some o) ⟨upd_same, fun b o e => by rw [upd_ne (ne_of_none e hD)]; exact e⟩ (fun i H2 _ h => .of (h.2 S _ hS1)) (fun i x H2 hx h => ?_) (fun H2 h => ?_)
    · have hi : i < ns.length := by
        have := (List.getElem?_eq_some_iff.mp hx).1
        rw [List.length_map] at this
        exact this
      have ex : x = .int ns[i] := by
        rw [List.getElem?_map, List.getElem?_eq_getElem hi] at hx
        exact (Option.some.inj hx).symm
      subst ex
      refine ⟨rfl, _, rfl, ns[i], rfl, _, h.1, ?_, ?_, fun b o e => ?_⟩
      · rw [List.length_map, List.length_take]
        exact small1000 (by omega)
      · rw [upd_same, abs_nn, List.take_add_one, List.getElem?_eq_getElem hi, List.map_append]
        rfl
      · rw [upd_ne (ne_of_none e hD)]
        exact h.2 b o e
    · refine ⟨by show 2 ≤ sizeLine; decide, fun p hp => ?_⟩
      have pD : p ≠ Dl := fun z => by
        rw [z, h.1] at hp
        cases hp
      have up : ∀ b o, H b = some o → upd H2 p (.lst [.ref Dl, .int 0]) b = some o := fun b o e => by
        have e2 := h.2 b o (sm0 b o e)
        rw [upd_ne (ne_of_none e2 hp)]
        exact e2
      have fresh : ∀ b, H2 b = none → H b = none := fun b e => by
        cases w : H b with
        | none => rfl
        | some o =>
          rw [h.2 b o (sm0 b o w)] at e
          cases e
      refine kk _ p Dl (ns.map fun n => (n.natAbs : Int)) _ (fun _ => none) up (fresh p hp) (Same.free sm0 hD) pD (fun n hn => ?_) (by rw [List.length_map]; exact hlen) ?_ upd_same (fun _ _ z => by cases z) (fun _ _ z => by cases z) rfl rfl rfl
      · obtain ⟨z, _, rfl⟩ := List.mem_map.mp hn
        omega
      · rw [upd_ne pD.symm, h.1, List.length_map, List.take_length, List.map_map]
        rfl
end
end RW
namespace RW
open PySem PySem.Spec PyProof.Rows L2 DL
def scl (m : Int) (r : R4) : R4 := ⟨r.f, r.s, r.l * m, r.m.map (· * m)⟩
def fitO (m : Int) : Option Int → Bool
  | none => true
  | some y => decide (y * m ≤ 1000000000)
def fitS (m : Int) (r : R4) : Bool := fitO m (some r.l) && fitO m r.m
def dueS (m : Int) (rs : List R4) : PyData := if rs.all (fitS m) = true then rDs (rs.map (scl m)) else .list [.str "range"]
def OO (o : Option Int) : Prop := ∀ y, o = some y → 0 ≤ y ∧ y ≤ 1000000000
theorem scaledX_ok {o : Option Int} {m : Int} (m0 : 0 < m) (m1 : m ≤ 100) (ho : OO o) {c : Nat} {P : Vl → Nat → Prop} {Px : Xd} (h : fitO m o = true → P (.dat (optD (o.map (· * m)))) c) (hx : fitO m o = false → Px "OutOfRange" [] c) :
    sp_scaled [.dat (optD o), .dat (.int m)] c P Px := by
  cases o with
  | none => exact h rfl
  | some y =>
    obtain ⟨y0, y1⟩ := ho y rfl
    refine ⟨.inl ⟨by omega, by omega⟩, ?_⟩
    show if decide (1000000000 < y * m) = true then _ else _
    by_cases hf : y * m ≤ 1000000000
    · refine ifF (decide_eq_false (by omega)) ?_
      exact ⟨.inl ⟨by omega, by omega⟩, h (decide_eq_true hf)⟩
    · refine ifT (decide_eq_true (by omega)) ?_
      exact hx (decide_eq_false hf)
theorem sr_go {m : Int} (m0 : 0 < m) (m1 : m ≤ 100) {Px : Xd} {c : Nat} {D : PyData} {K : List PyData → Nat → Prop} : ∀ (rs : List R4) (acc : List PyData), (∀ r ∈ rs, OO (some r.l) ∧ OO r.m) → (rs.all (fitS m) = true → K (acc ++ (rs.map (scl m)).map rD) c) → (rs.all (fitS m) = false → Px "OutOfRange" [] c) →
    lcL (gTu 4 (gsCons (gNm 2) (gsCons (gNm 3) (gsCons (gNm 4) (gsCons (gNm 5) gsNil))))) tOn (dTup (aCons (dVar 2) (aCons (dVar 3) (aCons (dCallX 2 sp_scaled (fun y fs _ c => Px y fs c) (aCons (dVar 4) (aCons (dVar 1) aNil))) (aCons (dCallX 2 sp_scaled (fun y fs _ c => Px y fs c) (aCons (dVar 5) (aCons (dVar 1) aNil))) aNil))))) [some (.dat D), some (.dat (.int m)), none, none, none, none] (rs.map rD) acc c K
  | [], acc, _, h, _ => by
    have h := h rfl
    rw [List.map_nil, List.map_nil, List.append_nil] at h
    exact h
  | r :: rs, acc, hb, h, hx => by
    obtain ⟨b1, b2⟩ := hb r List.mem_cons_self
    have ih := fun a => sr_go m0 m1 (Px := Px) (c := c) (D := D) (K := K) rs a fun x hr => hb x (List.mem_cons_of_mem _ hr)
    have ea : ∀ a b, fitO m (some r.l) = a → fitO m r.m = b → (r :: rs).all (fitS m) = (a && b && rs.all (fitS m)) := fun a b e1 e2 => by
      rw [List.all_cons]
      unfold fitS
      rw [e1, e2]
    obtain ⟨f, s, l, mo⟩ := r
    refine ⟨rfl, rfl, ?_⟩
    refine scaledX_ok (o := some l) m0 m1 b1 (fun e1 => ⟨rfl, ?_⟩) (fun e1 => hx (by rw [ea false (fitO m mo) e1 rfl]; rfl))
    refine scaledX_ok (o := mo) m0 m1 b2 (fun e2 => ⟨by show 4 ≤ sizeLine; decide, ?_⟩) (fun e2 => hx (by rw [ea true false e1 e2]; rfl))
    have e3 := ea true true e1 e2
    refine ih _ (fun e => ?_) (fun e => hx (by rw [e3, e]; rfl))
    have := h (by rw [e3, e]; rfl)
    rw [List.map_cons, List.map_cons] at this
    rw [List.append_assoc]
    exact this
theorem scaledR_ok {rs : List R4} {m : Int} (m0 : 0 < m) (m1 : m ≤ 100) (hl : rs.length ≤ 1000) (hb : ∀ r ∈ rs, OO (some r.l) ∧ OO r.m) {c : Nat} {P : Vl → Nat → Prop} {Px : Xd} (h : rs.all (fitS m) = true → P (.dat (rDs (rs.map (scl m)))) c) (hx : rs.all (fitS m) = false → Px "OutOfRange" [] c) :
    sp_scaled_rules [.dat (rDs rs), .dat (.int m)] c P Px := by
  refine ⟨by rw [List.length_map]; exact small_len (by omega), ?_⟩
  exact sr_go m0 m1 rs [] hb h hx
theorem noOwn_dat {l : List PyData} {n : Nat} : NoOwn (startE n (l.map Vl.dat)) := fun i v h => by
  have h2 := List.mem_of_getElem? h
  unfold startE at h2
  rcases List.mem_append.mp h2 with h3 | h3
  · simp at h3
  · rw [List.mem_replicate] at h3
    cases h3.2
theorem told_ok {rs : List R4} {m : Int} (m0 : 0 < m) (m1 : m ≤ 100) (hl : rs.length ≤ 1000) (hb : ∀ r ∈ rs, OO (some r.l) ∧ OO r.m) {c : Nat} {P : Vl → Nat → Prop} (hP : P (.dat (dueS m rs)) c) : sp__law_told [.dat (rDs rs), .dat (.int m)] c P := by
  have no : NoOwn (startE 3 [.dat (rDs rs), .dat (.int m)]) := noOwn_dat (l := [rDs rs, .int m]) (n := 3)
  unfold dueS at hP
  refine ⟨no, rfl, scaledR_ok m0 m1 hl hb (fun h => ?_) (fun h => ⟨List.mem_singleton.mpr rfl, no, fun a => ?_⟩)⟩
  · rw [if_pos h] at hP
    exact hP
  · rw [if_neg (by rw [h]; decide)] at hP
    refine ⟨by show 1 ≤ sizeLine; decide, rfl, rfl, ⟨by decide, by decide, by decide⟩, hP⟩
theorem due_ok {rs : List R4} {m : Int} (m0 : 0 < m) (m1 : m ≤ 100) (hl : rs.length ≤ 1000) (hb : ∀ r ∈ rs, OO (some r.l) ∧ OO r.m) {c : Nat} {P : Vl → Nat → Prop} (hP : P (.dat (dueS m rs)) c) : sp__law_due [.dat (rDs rs), .dat (.int m)] c P := by
  unfold dueS at hP
  refine ⟨by decide, ?_⟩
  refine forL_inv (fun j env c' => c' = c ∧ (rs.take j).all (fitS m) = true ∧ ∃ x3 x4 x5, env = [some (.dat (rDs rs)), some (.dat (.int m)), some (.dat (.tuple (((rs.take j).map (scl m)).map rD))), x3, x4, x5]) (fun j d env c' k hd hI hk => ?_) ⟨rfl, rfl, none, none, none, rfl⟩ (fun env c' hI => ?_)
  · obtain ⟨rfl, hall, x3, x4, x5, rfl⟩ := hI
    rw [List.getElem?_map] at hd
    obtain ⟨r, hr, rfl⟩ := Option.map_eq_some_iff.mp hd
    obtain ⟨b1, b2⟩ := hb r (List.mem_of_getElem? hr)
    have et : rs.take (j + 1) = rs.take j ++ [r] := by rw [List.take_succ, hr]; rfl
    have ln : (rs.take j).length ≤ 1000 := by rw [List.length_take]; omega
    have mem : r ∈ rs := List.mem_of_getElem? hr
    have bad : fitS m r = false → P (.dat (.list [.str "range"])) c' := fun e => by
      rw [if_neg] at hP
      · exact hP
      · intro z
        have := List.all_eq_true.mp z r mem
        rw [e] at this
        cases this
    have good : fitS m r = true → ∀ env', (∃ x3 x4 x5, env' = [some (.dat (rDs rs)), some (.dat (.int m)), some (.dat (.tuple (((rs.take j).map (scl m)).map rD ++ [rD (scl m r)]))), x3, x4, x5]) → k env' c' := fun e env' ⟨x3, x4, x5, h⟩ => by
      refine hk _ _ ⟨rfl, ?_, x3, x4, x5, ?_⟩
      · rw [et, List.all_append, hall]
        simp [e]
      · rw [et, List.map_append, List.map_append]
        exact h
    obtain ⟨l0, l1⟩ := b1 r.l rfl
    have lm : r.l * m ≤ 1000000000 * 100 := Int.mul_le_mul l1 m1 (by omega) (by decide)
    have lm0 : 0 ≤ r.l * m := Int.mul_nonneg l0 (by omega)
    obtain ⟨f, s, l, mo⟩ := r
    have i2 : atI [PyData.int f, .int s, .int l, optD mo] 2 = some (.int l) := rfl
    have i3 : atI [PyData.int f, .int s, .int l, optD mo] 3 = some (optD mo) := rfl
    refine ⟨.inl ⟨by omega, by omega⟩, ?_⟩
    cases mo with
    | none =>
      refine ⟨⟨by decide, by decide, by decide⟩, ?_⟩
      show if decide ((1000000000 : Int) < max (l * m) 0) = true then _ else _
      by_cases hf : l * m ≤ 1000000000
      · refine ifF (decide_eq_false (by omega)) ⟨by show 4 ≤ sizeLine; decide, by show 1 ≤ sizeLine; decide, ?_, ?_⟩
        · show (((rs.take j).map (scl m)).map rD).length + 1 ≤ sizeLine
          rw [List.length_map, List.length_map]
          exact small_le (by omega)
        · exact good (by unfold fitS fitO; simp [hf]) _ ⟨_, _, _, rfl⟩
      · exact ifT (decide_eq_true (by omega)) ⟨by show 1 ≤ sizeLine; decide, bad (by unfold fitS fitO; simp [hf])⟩
    | some y =>
      obtain ⟨y0, y1⟩ := b2 y rfl
      have ym : y * m ≤ 1000000000 * 100 := Int.mul_le_mul y1 m1 (by omega) (by decide)
      have ym0 : 0 ≤ y * m := Int.mul_nonneg y0 (by omega)
      refine ⟨.inl ⟨by omega, by omega⟩, ⟨by decide, by decide, by decide⟩, ?_⟩
      show if decide ((1000000000 : Int) < max (l * m) (y * m)) = true then _ else _
      by_cases hf : l * m ≤ 1000000000 ∧ y * m ≤ 1000000000
      · refine ifF (decide_eq_false (by omega)) ⟨by show 4 ≤ sizeLine; decide, by show 1 ≤ sizeLine; decide, ?_, ?_⟩
        · show (((rs.take j).map (scl m)).map rD).length + 1 ≤ sizeLine
          rw [List.length_map, List.length_map]
          exact small_le (by omega)
        · exact good (by unfold fitS fitO; simp [hf.1, hf.2]) _ ⟨_, _, _, rfl⟩
      · exact ifT (decide_eq_true (by omega)) ⟨by show 1 ≤ sizeLine; decide, bad (by
          unfold fitS fitO
          by_cases h1 : l * m ≤ 1000000000
          · simp [h1, show ¬ y * m ≤ 1000000000 from fun z => hf ⟨h1, z⟩]
          · simp [h1])⟩
  · obtain ⟨rfl, hall, x3, x4, x5, rfl⟩ := hI
    rw [List.length_map, List.take_length] at hall ⊢
    rw [if_pos hall] at hP
    exact hP
end RW
namespace RW
open PySem PySem.Spec PyProof.Rows L2 DL
theorem same_ok {d : PyData} {c : Nat} {P : Vl → Nat → Prop} (h : shows d) (hP : P (.dat (.bool true)) c) : sp__law_same [.dat d, .dat d] c P := by
  refine ⟨h, h, ?_⟩
  show P (.dat (.bool (decide (d.shown = d.shown)))) c
  rw [decide_eq_true rfl]
  exact hP
structure RG (n : Int) (r : R4) : Prop where
  ok : r.Ok n
  l : r.l ≤ 1000000000
  m : ∀ y, r.m = some y → y ≤ 1000000000
theorem RG.oo {n : Int} {r : R4} (h : RG n r) : OO (some r.l) ∧ OO r.m := ⟨fun y e => by cases e; exact ⟨h.ok.l0, h.l⟩, fun y e => ⟨(h.ok.m0 y e).1, h.m y e⟩⟩
theorem pick_l {a b q : Int} (a0 : 0 ≤ a) (a1 : a < 9) (b0 : 0 ≤ b) (b1 : b < 40) (q0 : 0 ≤ q) (q1 : q < 6) : ∃ l : Int, atI [PyData.int 0, .int 1, .int a, .int b, .int 1000000000, .int 999999998] q = some (.int l) ∧ 0 ≤ l ∧ l ≤ 1000000000 := by
  have : q = 0 ∨ q = 1 ∨ q = 2 ∨ q = 3 ∨ q = 4 ∨ q = 5 := by omega
  rcases this with rfl | rfl | rfl | rfl | rfl | rfl
  · exact ⟨0, rfl, by decide, by decide⟩
  · exact ⟨1, rfl, by decide, by decide⟩
  · exact ⟨a, rfl, a0, by omega⟩
  · exact ⟨b, rfl, b0, by omega⟩
  · exact ⟨1000000000, rfl, by decide, by decide⟩
  · exact ⟨999999998, rfl, by decide, by decide⟩
theorem pick_m {l p b q : Int} (q0 : 0 ≤ q) (q1 : q < 7) : ∃ z, atI [PyData.none, .none, .int (l + p), .int b, .int 1000000000, .int l, .int (l - 1)] q = some z ∧ (z = .none ∨ ∃ x, z = .int x) := by
  have : q = 0 ∨ q = 1 ∨ q = 2 ∨ q = 3 ∨ q = 4 ∨ q = 5 ∨ q = 6 := by omega
  rcases this with rfl | rfl | rfl | rfl | rfl | rfl | rfl
  · exact ⟨_, rfl, .inl rfl⟩
  · exact ⟨_, rfl, .inl rfl⟩
  · exact ⟨_, rfl, .inr ⟨_, rfl⟩⟩
  · exact ⟨_, rfl, .inr ⟨_, rfl⟩⟩
  · exact ⟨_, rfl, .inr ⟨_, rfl⟩⟩
  · exact ⟨_, rfl, .inr ⟨_, rfl⟩⟩
  · exact ⟨_, rfl, .inr ⟨_, rfl⟩⟩
theorem small200 {x : Int} (h0 : 0 ≤ x) (h1 : x ≤ 1000000000000) : x.natAbs < 2 ^ 200 := Nat.lt_of_le_of_lt (by omega : x.natAbs ≤ 1000000000000) (by decide)
theorem lrule_ok {n : Int} {c : Nat} {P : Vl → Nat → Prop} (n0 : 1 ≤ n) (n1 : n ≤ 12) (hc : c < 100000) (hP : ∀ r c', RG n r → c' ≤ c + 8 → P (.dat (rD r)) c') : sp__law_rule [.deck, .dat (.int n)] c P := by
  have n2 : n < 2 ^ 200 := Int.lt_of_le_of_lt n1 (by decide)
  refine ⟨rfl, by omega, n2, by omega, fun f f0 f1 => ⟨rfl, by omega, n2, by omega, fun s s0 s1 => ?_⟩⟩
  refine ⟨rfl, by decide, by decide, by omega, fun a a0 a1 => ⟨rfl, by decide, by decide, by omega, fun b b0 b1 => ⟨⟨by decide, by decide, by decide⟩, ⟨by decide, by decide, by decide⟩, by show 6 ≤ sizeLine; decide, rfl, by decide, by decide, by omega, fun q q0 q1 => ?_⟩⟩⟩
  obtain ⟨l, hl, l0, l1⟩ := pick_l a0 a1 b0 b1 q0 q1
  refine ix_ok hl ?_
  refine ⟨rfl, by decide, by decide, by omega, fun p p0 p1 => ⟨rfl, by decide, by decide, by omega, fun b2 b20 b21 => ⟨⟨by decide, by decide, by decide⟩, by show 7 ≤ sizeLine; decide, rfl, by decide, by decide, by omega, fun w w0 w1 => ?_⟩⟩⟩
  obtain ⟨z, hz, hz2⟩ := pick_m (l := l) (p := p) (b := b2) w0 w1
  refine ix_ok hz ?_
  rcases hz2 with rfl | ⟨x, rfl⟩
  · refine ⟨by show 4 ≤ sizeLine; decide, ?_⟩
    exact hP ⟨f, 1 + s, l, none⟩ _ ⟨⟨f0, f1, by show 1 ≤ 1 + s; omega, by show 1 + s ≤ n; omega, l0, small200 l0 (by show l ≤ _; omega), fun m e => by cases e⟩, l1, fun y e => by cases e⟩ (by omega)
  · refine ⟨⟨by decide, by decide, by decide⟩, ?_⟩
    refine ⟨by show 4 ≤ sizeLine; decide, ?_⟩
    have h0 : 0 ≤ max 0 (min 1000000000 x) := by omega
    have h1 : max 0 (min 1000000000 x) ≤ 1000000000 := by omega
    exact hP ⟨f, 1 + s, l, some (max 0 (min 1000000000 x))⟩ _ ⟨⟨f0, f1, by show 1 ≤ 1 + s; omega, by show 1 + s ≤ n; omega, l0, small200 l0 (by show l ≤ _; omega), fun m e => by cases e; exact ⟨h0, small200 h0 (by omega)⟩⟩, l1, fun y e => by cases e; exact h1⟩ (by omega)
theorem lrules_ok {n : Int} {c : Nat} {P : Vl → Nat → Prop} (n0 : 1 ≤ n) (n1 : n ≤ 12) (hc : c < 90000) (hP : ∀ rs : List R4, ∀ c', rs.length ≤ 16 → (∀ r ∈ rs, RG n r) → c' ≤ c + 200 → P (.dat (rDs rs)) c') : sp__law_rules [.deck, .dat (.int n), .dat (.int 16)] c P := by
  refine ⟨rfl, by decide, by decide, by omega, fun t t0 t1 => ⟨by omega, by omega, by rw [rangeD_len]; exact small_len (by omega), ?_⟩⟩
  refine lcL_inv (t.toNat) (fun acc c' => c' ≤ c + 1 + 8 * acc.length ∧ ∃ rs : List R4, acc = rs.map rD ∧ ∀ r ∈ rs, RG n r) (fun d acc c' k hd hl hI hk => ?_) (by rw [rangeD_len]; simp) ⟨by simp, [], rfl, fun _ h => (nomatch h)⟩ (fun out c' hI hl => ?_)
  · obtain ⟨hc', rs, rfl, hr⟩ := hI
    refine ⟨rfl, lrule_ok n0 n1 (by omega) fun r c2 hg hc2 => hk _ _ ⟨by rw [List.length_append, List.length_singleton]; omega, rs ++ [r], by rw [List.map_append]; rfl, fun x hx => ?_⟩⟩
    rcases List.mem_append.mp hx with h | h
    · exact hr x h
    · rw [List.mem_singleton.mp h]
      exact hg
  · obtain ⟨hc', rs, rfl, hr⟩ := hI
    rw [List.length_map] at hl hc'
    exact hP rs c' (by omega) hr (by omega)
end RW
namespace RW
open PySem PySem.Spec PyProof.Rows L2 DL
theorem forL_all {dg : DG} {db : DS} {D : DEnds} {I : Ev → Nat → Prop} : ∀ (L : List PyData), (∀ d ∈ L, ∀ (env : Ev) (c : Nat) (k : Ev → Nat → Prop), I env c → (∀ env' c', I env' c' → k env' c') → dg (.dat d) env fun env' => db { nx := k, ct := k, bk := D.nx, rt := D.rt } env' c) →
    ∀ {env : Ev} {c : Nat}, I env c → (∀ env c, I env c → D.nx env c) → forL dg db D L env c
  | [], _, _, _, h0, hend => hend _ _ h0
  | d :: ds, st, env, c, h0, hend => st d List.mem_cons_self env c (forL dg db D ds) h0 fun env' c' h => forL_all ds (fun e he => st e (List.mem_cons_of_mem _ he)) h hend
theorem sm_scl {n m : Int} {r : R4} (n1 : n ≤ 1000) (m0 : 0 < m) (m1 : m ≤ 100) (h : RG n r) : (scl m r).Ok n := by
  have b : ∀ y, 0 ≤ y → y ≤ 1000000000 → 0 ≤ y * m ∧ (y * m).natAbs < 2 ^ 200 := fun y y0 y1 => by
    have a1 : y * m ≤ 1000000000 * 100 := Int.mul_le_mul y1 m1 (by omega) (by decide)
    have a0 : 0 ≤ y * m := Int.mul_nonneg y0 (by omega)
    exact ⟨a0, small200 a0 (by omega)⟩
  refine ⟨h.ok.f0, h.ok.f1, h.ok.s0, h.ok.s1, (b _ h.ok.l0 h.l).1, (b _ h.ok.l0 h.l).2, fun y e => ?_⟩
  obtain ⟨f, s, l, mo⟩ := r
  cases mo with
  | none => cases e
  | some z =>
    cases e
    exact b z (h.ok.m0 z rfl).1 (h.m z rfl)
theorem sm_dueS {n m : Int} {rs : List R4} (n1 : n ≤ 1000) (m0 : 0 < m) (m1 : m ≤ 100) (hl : rs.length ≤ 16) (h : ∀ r ∈ rs, RG n r) : Sm 2 307842 (dueS m rs) := by
  unfold dueS
  split
  · refine sm_rules (n := n) n1 (by rw [List.length_map]; omega) fun r hr => ?_
    obtain ⟨q, hq, rfl⟩ := List.mem_map.mp hr
    exact sm_scl n1 m0 m1 (h q hq)
  · have a : Sm 1 1925 (.list [.str "range"]) := sm_lst (k := 0) (N := 1921) 1 (fun d hd => by
      rw [List.mem_singleton.mp hd]
      exact ⟨rfl, rfl, Nat.le_refl _, by simp only [cost]; decide +kernel⟩) (Nat.le_refl _)
    exact a.mono (by decide) (by decide)
theorem sm_two {d : PyData} (h : Sm 2 307842 d) : shows (.list [d, d]) := by
  refine Sm.shows (sm_lst (k := 2) (N := 307842) 2 (fun e he => ?_) (by simp)) (by decide) (by decide)
  rcases List.mem_cons.mp he with rfl | he
  · exact h
  · rw [List.mem_singleton.mp he]
    exact h
def smallR (d : PyData) : Bool := match d with
  | .tuple [_, _, .int l, .none] => decide (l < 50)
  | .tuple [_, _, .int l, .int y] => decide (l < 50) && decide (y < 50)
  | _ => false
theorem filter_map_rD {f : PyData → Bool} : ∀ (rs : List R4), (rs.map rD).filter f = (rs.filter fun r => f (rD r)).map rD
  | [] => rfl
  | r :: rs => by
    rw [List.map_cons, List.filter_cons, List.filter_cons, filter_map_rD rs]
    split <;> rfl
theorem some6 {n : Int} {r1 r2 : List R4} (n0 : 1 ≤ n) (h1 : r1.length ≤ 16 ∧ ∀ r ∈ r1, RG n r) (h2 : r2.length ≤ 16 ∧ ∀ r ∈ r2, RG n r) {d : PyData}
    (hd : d ∈ [rDs r1, rDs r2, rDs [⟨0, 1, 10000000, none⟩, ⟨0, 1, 0, some 10000000⟩], rDs [], rDs [⟨0, 1, 10000001, none⟩], rDs [⟨0, 1, 0, some 10000001⟩]]) : ∃ rs : List R4, d = rDs rs ∧ rs.length ≤ 16 ∧ ∀ r ∈ rs, RG n r := by
  have g1 : ∀ l : Int, 0 ≤ l → l ≤ 10000001 → RG n ⟨0, 1, l, none⟩ := fun l l0 l1 => ⟨⟨Int.le_refl 0, by show (0 : Int) < n; omega, Int.le_refl 1, n0, l0, small200 l0 (by show l ≤ _; omega), fun m e => by cases e⟩, by show l ≤ _; omega, fun y e => by cases e⟩
  have g2 : ∀ l : Int, 0 ≤ l → l ≤ 10000001 → RG n ⟨0, 1, 0, some l⟩ := fun l l0 l1 => ⟨⟨Int.le_refl 0, by show (0 : Int) < n; omega, Int.le_refl 1, n0, Int.le_refl 0, small200 (Int.le_refl 0) (by show (0 : Int) ≤ _; decide), fun m e => by cases e; exact ⟨l0, small200 l0 (by omega)⟩⟩, by show (0 : Int) ≤ _; decide, fun y e => by cases e; omega⟩
  simp only [List.mem_cons, List.not_mem_nil, or_false] at hd
  rcases hd with rfl | rfl | rfl | rfl | rfl | rfl
  · exact ⟨_, rfl, h1⟩
  · exact ⟨_, rfl, h2⟩
  · refine ⟨_, rfl, by decide, fun r hr => ?_⟩
    simp only [List.mem_cons, List.not_mem_nil, or_false] at hr
    rcases hr with rfl | rfl
    · exact g1 _ (by decide) (by decide)
    · exact g2 _ (by decide) (by decide)
  · exact ⟨[], rfl, by decide, fun _ h => (nomatch h)⟩
  · refine ⟨_, rfl, by decide, fun r hr => ?_⟩
    rw [List.mem_singleton.mp hr]
    exact g1 _ (by decide) (by decide)
  · refine ⟨_, rfl, by decide, fun r hr => ?_⟩
    rw [List.mem_singleton.mp hr]
    exact g2 _ (by decide) (by decide)
theorem law_ok {ns : List Int} (h63 : ns.length ≤ 63) : sp_law [.dat (.list (ns.map PyData.int))] 0 (fun x _ => x = .dat (.bool true)) := by
  refine ⟨⟨ns, h63, rfl⟩, ?_, by decide, by decide, ?_⟩
  · intro x hx
    simp [startE] at hx
    rcases hx with rfl | rfl <;> trivial
  refine forL_inv (fun j env c => c ≤ 1000 * j ∧ ∃ x2 x3 x4 x5 x6 x7 x8 x9 xa xb, env = [some (.dat (.list (ns.map PyData.int))), some .deck, x2, x3, x4, x5, x6, x7, x8, x9, xa, xb, none, none]) (fun j d env c k hd hI hk => ?_) ⟨Nat.le_refl _, none, none, none, none, none, none, none, none, none, none, rfl⟩ (fun env c hI => rfl)
  obtain ⟨hc, x2, x3, x4, x5, x6, x7, x8, x9, xa, xb, rfl⟩ := hI
  obtain ⟨hj, rfl⟩ := rangeD_get hd
  have hj : j < 12 := hj
  refine ⟨rfl, by decide, by decide, by omega, fun n n0 n1 => ⟨rfl, lrules_ok (n := 1 + n) (by omega) (by omega) (by omega) fun rs c1 hl hr hc1 => ?_⟩⟩
  refine ⟨by rw [List.length_map]; exact small_len (by omega), ?_⟩
  refine lcL_pure smallR (fun d => d) _ _ _ _ (fun d hd P hP => ?_) (fun d hd hf P hP => hP) ?_
  · obtain ⟨r, hr2, rfl⟩ := List.mem_map.mp hd
    obtain ⟨f, s, l, mo⟩ := r
    show if decide (l < 50) = true then _ else _
    cases mo with
    | none =>
      have hP : P (decide (l < 50)) c1 := hP
      by_cases h : l < 50
      · rw [decide_eq_true h] at hP
        exact ifT (decide_eq_true h) hP
      · rw [decide_eq_false h] at hP
        exact ifF (decide_eq_false h) hP
    | some y =>
      have hP : P (decide (l < 50) && decide (y < 50)) c1 := hP
      by_cases h : l < 50
      · rw [decide_eq_true h] at hP
        refine ifT (decide_eq_true h) ?_
        show if (y != 0) = true then P (decide (y < 50)) c1 else P (decide ((0 : Int) < 50)) c1
        by_cases hy : y = 0
        · subst hy
          exact hP
        · exact ifT (by simpa using hy) hP
      · rw [decide_eq_false h] at hP
        exact ifF (decide_eq_false h) hP
  rw [List.nil_append, List.map_id', filter_map_rD]
  obtain ⟨rs2, hrs2⟩ : ∃ rs2, rs2 = rs.filter fun r => smallR (rD r) := ⟨_, rfl⟩
  rw [← hrs2]
  have hr2 : rs2.length ≤ 16 ∧ ∀ r ∈ rs2, RG (1 + n) r := by
    rw [hrs2]
    exact ⟨Nat.le_trans (List.length_filter_le _ _) hl, fun r h => hr r (List.mem_filter.mp h).1⟩
  have e1 : CPow 10 7 := ⟨by decide, by decide, by decide⟩
  refine ⟨e1, by show 4 ≤ sizeLine; decide, e1, by show 4 ≤ sizeLine; decide, by show 2 ≤ sizeLine; decide, ?_⟩
  refine ⟨by show 0 ≤ sizeLine; decide, e1, by show 4 ≤ sizeLine; decide, by show 1 ≤ sizeLine; decide, e1, by show 4 ≤ sizeLine; decide, by show 1 ≤ sizeLine; decide, by show 6 ≤ sizeLine; decide, ?_⟩
  refine forL_inv (fun i env c' => c' ≤ c1 + i ∧ ∃ x7 x8 x9 xa xb, env = [some (.dat (.list (ns.map PyData.int))), some .deck, some (.dat (.int (0 + (j : Int)))), some (.dat (.int (1 + n))), some (.dat (rDs rs)), some (.dat (rDs rs2)), some (.dat (rDs [⟨0, 1, 10000000, none⟩, ⟨0, 1, 0, some 10000000⟩])), x7, x8, x9, xa, xb, none, none]) (fun i d env c' k2 hd2 hI hk2 => ?_) ⟨Nat.le_refl _, x7, x8, x9, xa, xb, rfl⟩ (fun env c' hI => ?_)
  rotate_left
  · obtain ⟨hc', y7, y8, y9, ya, yb, rfl⟩ := hI
    have hc' : c' ≤ c1 + 6 := hc'
    exact hk _ _ ⟨by omega, _, _, _, _, _, _, _, _, _, _, rfl⟩
  obtain ⟨hc', y7, y8, y9, ya, yb, rfl⟩ := hI
  have hi : i < 6 := (List.getElem?_eq_some_iff.mp hd2).1
  obtain ⟨r3, rfl, hl3, hr3⟩ := some6 (n := 1 + n) (by omega) ⟨hl, hr⟩ hr2 (List.mem_of_getElem? hd2)
  refine ⟨rfl, by decide, by decide, by omega, fun q q0 q1 => ⟨by show 4 ≤ sizeLine; decide, ?_⟩⟩
  refine forL_all (I := fun env c'' => c'' = c' + 1 ∧ ∃ x8 x9 xa xb, env = [some (.dat (.list (ns.map PyData.int))), some .deck, some (.dat (.int (0 + (j : Int)))), some (.dat (.int (1 + n))), some (.dat (rDs rs)), some (.dat (rDs rs2)), some (.dat (rDs [⟨0, 1, 10000000, none⟩, ⟨0, 1, 0, some 10000000⟩])), some (.dat (rDs r3)), x8, x9, xa, xb, none, none]) _ (fun d hd env c'' k3 hI hk3 => ?_) ⟨rfl, y8, y9, ya, yb, rfl⟩ (fun env c'' hI => ?_)
  rotate_left
  · obtain ⟨rfl, z8, z9, za, zb, rfl⟩ := hI
    exact hk2 _ _ ⟨by omega, _, _, _, _, _, rfl⟩
  obtain ⟨rfl, z8, z9, za, zb, rfl⟩ := hI
  obtain ⟨m, rfl, m0, m1⟩ : ∃ m : Int, d = .int m ∧ 0 < m ∧ m ≤ 100 := by
    have hd' : d ∈ [PyData.int 1, .int 100, .int (1 + q), .int 99] := hd
    simp only [List.mem_cons, List.not_mem_nil, or_false] at hd'
    rcases hd' with rfl | rfl | rfl | rfl
    · exact ⟨1, rfl, by decide, by decide⟩
    · exact ⟨100, rfl, by decide, by decide⟩
    · exact ⟨1 + q, rfl, by omega, by omega⟩
    · exact ⟨99, rfl, by decide, by decide⟩
  have oo : ∀ r ∈ r3, OO (some r.l) ∧ OO r.m := fun r h => (hr3 r h).oo
  have sone : shows (rDs r3) := (sm_rules (n := 1 + n) (by omega) (by omega) fun r h => (hr3 r h).ok).shows (by decide) (by decide)
  have sd := sm_two (sm_dueS (n := 1 + n) (by omega) m0 m1 hl3 hr3)
  refine ⟨sone, rfl, due_ok m0 m1 (by omega) oo ?_⟩
  refine ⟨by decide, by decide, by show 2 < sizeLine; decide, ?_⟩
  refine lcL_pure (fun _ => true) (fun _ => dueS m r3) _ _ _ _ (fun d hd P hP => hP) (fun d hd hf P hP => ⟨rfl, told_ok m0 m1 (by omega) oo hP⟩) ?_
  refine ⟨by show 2 ≤ sizeLine; decide, rfl, ?_⟩
  show sp__law_same [.dat (.list [dueS m r3, dueS m r3]), .dat (.list [dueS m r3, dueS m r3])] _ _
  refine same_ok sd ⟨sone, ?_⟩
  exact iteNB (b := decide ((rDs r3).shown = (rDs r3).shown)) (decide_eq_true rfl) (hk3 _ _ ⟨rfl, _, _, _, _, rfl⟩)
theorem want (K : PySem.W.Frag) (H : Hp) (a : Addr) (ns : List Int) (hl : ns.length ≤ 63) (hS : SqL K H a (ns.map V.int)) : spTop K sp_law [.ref a] H (fun v _ => v = .bl true) E0 :=
  ⟨a, ns, fun x _ => x = .dat (.bool true), rfl, hS, hl, law_ok hl, fun x c' g' H' v hx ok _ => by
    subst hx
    exact dp_bl ok⟩
end RW
namespace RW
open PySem PySem.Spec PyProof.Rows L2 DL
theorem all_mk {l : PySem.W.OpenLaw} {w : World} {K : PySem.W.Frag} {h : Heap} {mg : Str → Option Value} {fa f0 f1 f2 f3 f4 f5 f6 f7 f8 f9 : Addr} (X : K.In h) (G : h.Ns mainGlobals mg) (hfa : mg "law" = some (.ref fa))
    {od0 an0 : Option Addr} {sl0 : Array (Option Value)} {oc0 kV0 dc0 pm0 cd0 ct0 : Value}
    (a0 : PySem.W.nsIn K mainGlobals "scaled" = some (some (.ref f0))) (l0 : K.lookup f0 = some ⟨oc0, od0, .func (PySem.W.fnOf "scaled" "scaled" (defArgs s_scaled) (defBody s_scaled) (defScope s_scaled) .none kV0 dc0 pm0 an0 cd0 ct0), sl0⟩) (c0 : PySem.W.codeIn K cd0 "scaled" = true) (k0 : PySem.W.keepIn K (.ref f0) = true)
    {od1 an1 : Option Addr} {sl1 : Array (Option Value)} {oc1 kV1 dc1 pm1 cd1 ct1 : Value}
    (a1 : PySem.W.nsIn K mainGlobals "scaled_rules" = some (some (.ref f1))) (l1 : K.lookup f1 = some ⟨oc1, od1, .func (PySem.W.fnOf "scaled_rules" "scaled_rules" (defArgs s_scaled_rules) (defBody s_scaled_rules) (defScope s_scaled_rules) .none kV1 dc1 pm1 an1 cd1 ct1), sl1⟩) (c1 : PySem.W.codeIn K cd1 "scaled_rules" = true) (k1 : PySem.W.keepIn K (.ref f1) = true)
    {od2 an2 : Option Addr} {sl2 : Array (Option Value)} {oc2 kV2 dc2 pm2 cd2 ct2 : Value}
    (a2 : PySem.W.nsIn K mainGlobals "_law_deck" = some (some (.ref f2))) (l2 : K.lookup f2 = some ⟨oc2, od2, .func (PySem.W.fnOf "_law_deck" "_law_deck" (defArgs s__law_deck) (defBody s__law_deck) (defScope s__law_deck) .none kV2 dc2 pm2 an2 cd2 ct2), sl2⟩) (c2 : PySem.W.codeIn K cd2 "_law_deck" = true) (k2 : PySem.W.keepIn K (.ref f2) = true)
    {od3 an3 : Option Addr} {sl3 : Array (Option Value)} {oc3 kV3 dc3 pm3 cd3 ct3 : Value}
    (a3 : PySem.W.nsIn K mainGlobals "_law_draw" = some (some (.ref f3))) (l3 : K.lookup f3 = some ⟨oc3, od3, .func (PySem.W.fnOf "_law_draw" "_law_draw" (defArgs s__law_draw) (defBody s__law_draw) (defScope s__law_draw) .none kV3 dc3 pm3 an3 cd3 ct3), sl3⟩) (c3 : PySem.W.codeIn K cd3 "_law_draw" = true) (k3 : PySem.W.keepIn K (.ref f3) = true)
    {od4 an4 : Option Addr} {sl4 : Array (Option Value)} {oc4 kV4 dc4 pm4 cd4 ct4 : Value}
    (a4 : PySem.W.nsIn K mainGlobals "_law_same" = some (some (.ref f4))) (l4 : K.lookup f4 = some ⟨oc4, od4, .func (PySem.W.fnOf "_law_same" "_law_same" (defArgs s__law_same) (defBody s__law_same) (defScope s__law_same) .none kV4 dc4 pm4 an4 cd4 ct4), sl4⟩) (c4 : PySem.W.codeIn K cd4 "_law_same" = true) (k4 : PySem.W.keepIn K (.ref f4) = true)
    {od5 an5 : Option Addr} {sl5 : Array (Option Value)} {oc5 kV5 dc5 pm5 cd5 ct5 : Value}
    (a5 : PySem.W.nsIn K mainGlobals "_law_rule" = some (some (.ref f5))) (l5 : K.lookup f5 = some ⟨oc5, od5, .func (PySem.W.fnOf "_law_rule" "_law_rule" (defArgs s__law_rule) (defBody s__law_rule) (defScope s__law_rule) .none kV5 dc5 pm5 an5 cd5 ct5), sl5⟩) (c5 : PySem.W.codeIn K cd5 "_law_rule" = true) (k5 : PySem.W.keepIn K (.ref f5) = true)
    {od6 an6 : Option Addr} {sl6 : Array (Option Value)} {oc6 kV6 dc6 pm6 cd6 ct6 : Value}
    (a6 : PySem.W.nsIn K mainGlobals "_law_rules" = some (some (.ref f6))) (l6 : K.lookup f6 = some ⟨oc6, od6, .func (PySem.W.fnOf "_law_rules" "_law_rules" (defArgs s__law_rules) (defBody s__law_rules) (defScope s__law_rules) .none kV6 dc6 pm6 an6 cd6 ct6), sl6⟩) (c6 : PySem.W.codeIn K cd6 "_law_rules" = true) (k6 : PySem.W.keepIn K (.ref f6) = true)
    {od7 an7 : Option Addr} {sl7 : Array (Option Value)} {oc7 kV7 dc7 pm7 cd7 ct7 : Value}
    (a7 : PySem.W.nsIn K mainGlobals "_law_due" = some (some (.ref f7))) (l7 : K.lookup f7 = some ⟨oc7, od7, .func (PySem.W.fnOf "_law_due" "_law_due" (defArgs s__law_due) (defBody s__law_due) (defScope s__law_due) .none kV7 dc7 pm7 an7 cd7 ct7), sl7⟩) (c7 : PySem.W.codeIn K cd7 "_law_due" = true) (k7 : PySem.W.keepIn K (.ref f7) = true)
    {od8 an8 : Option Addr} {sl8 : Array (Option Value)} {oc8 kV8 dc8 pm8 cd8 ct8 : Value}
    (a8 : PySem.W.nsIn K mainGlobals "_law_told" = some (some (.ref f8))) (l8 : K.lookup f8 = some ⟨oc8, od8, .func (PySem.W.fnOf "_law_told" "_law_told" (defArgs s__law_told) (defBody s__law_told) (defScope s__law_told) .none kV8 dc8 pm8 an8 cd8 ct8), sl8⟩) (c8 : PySem.W.codeIn K cd8 "_law_told" = true) (k8 : PySem.W.keepIn K (.ref f8) = true)
    {od9 an9 : Option Addr} {sl9 : Array (Option Value)} {oc9 kV9 dc9 pm9 cd9 ct9 : Value}
    (a9 : PySem.W.nsIn K mainGlobals "law" = some (some (.ref f9))) (l9 : K.lookup f9 = some ⟨oc9, od9, .func (PySem.W.fnOf "law" "law" (defArgs s_law) (defBody s_law) (defScope s_law) .none kV9 dc9 pm9 an9 cd9 ct9), sl9⟩) (c9 : PySem.W.codeIn K cd9 "law" = true) (k9 : PySem.W.keepIn K (.ref f9) = true)
    {t_LIMIT : Tok} (y_LIMIT : PySem.W.nsIn K mainGlobals "LIMIT" = some (some (.int 1000000000 t_LIMIT)))
    (z_abs : PySem.W.nsIn K mainGlobals "abs" = some none)
    (z_int : PySem.W.nsIn K mainGlobals "int" = some none)
    (z_isinstance : PySem.W.nsIn K mainGlobals "isinstance" = some none)
    (z_len : PySem.W.nsIn K mainGlobals "len" = some none)
    (z_max : PySem.W.nsIn K mainGlobals "max" = some none)
    (z_min : PySem.W.nsIn K mainGlobals "min" = some none)
    (z_range : PySem.W.nsIn K mainGlobals "range" = some none)
    (z_repr : PySem.W.nsIn K mainGlobals "repr" = some none)
    (z_tuple : PySem.W.nsIn K mainGlobals "tuple" = some none)
    {C_RingError : Addr}
    (ca_RingError : PySem.W.nsIn K mainGlobals "RingError" = some (some (.ref C_RingError)))
    {C_OutOfRange : Addr}
    (ca_OutOfRange : PySem.W.nsIn K mainGlobals "OutOfRange" = some (some (.ref C_OutOfRange)))
    {C_NotAlike : Addr}
    (ca_NotAlike : PySem.W.nsIn K mainGlobals "NotAlike" = some (some (.ref C_NotAlike)))
    {C_NotDivisible : Addr}
    (ca_NotDivisible : PySem.W.nsIn K mainGlobals "NotDivisible" = some (some (.ref C_NotDivisible)))
    (hd_OutOfRange : PySem.W.hasDictIn K C_OutOfRange = true)
    (ty_OutOfRange : PySem.W.typeIn K (.ref C_OutOfRange) = some (.type "type"))
    (sb_OutOfRange : PySem.W.subIn K (.ref C_OutOfRange) (.type "BaseException") = some true)
    (xo_OutOfRange : PySem.W.excIn K C_OutOfRange veB "ValueError.__new__" = true)
    (od_OutOfRange : PySem.W.keepIn K (.ref C_OutOfRange) = true)
    (hd_RingError : PySem.W.hasDictIn K C_RingError = true)
    (ty_RingError : PySem.W.typeIn K (.ref C_RingError) = some (.type "type"))
    (sb_RingError : PySem.W.subIn K (.ref C_RingError) (.type "BaseException") = some true)
    (su_OutOfRange_RingError : PySem.W.subIn K (.ref C_OutOfRange) (.ref C_RingError) = some true)
    (xa_OutOfRange : PySem.W.findIn K (.ref C_OutOfRange) "__getattribute__" = some (some (.builtin "BaseException.__getattribute__")))
    (xb_OutOfRange : PySem.W.findIn K (.ref C_OutOfRange) "__getattr__" = some none)
    (xc_OutOfRange : PySem.W.findIn K (.ref C_OutOfRange) "__class__" = some (some (.builtin "object.__class__")))
    (xd_OutOfRange : PySem.W.specialIn K (.builtin "object.__class__") "__get__" = some (some (.builtin "getset_descriptor.__get__")))
    (xe_OutOfRange : PySem.W.takesIn K (.builtin "object.__class__") = some true)
    (xf_OutOfRange : PySem.W.mroIn K C_OutOfRange (.type "object") = some true)
    (su_OutOfRange_OutOfRange : PySem.W.subIn K (.ref C_OutOfRange) (.ref C_OutOfRange) = some true)
    (hd_NotAlike : PySem.W.hasDictIn K C_NotAlike = true)
    (ty_NotAlike : PySem.W.typeIn K (.ref C_NotAlike) = some (.type "type"))
    (sb_NotAlike : PySem.W.subIn K (.ref C_NotAlike) (.type "BaseException") = some true)
    (su_OutOfRange_NotAlike : PySem.W.subIn K (.ref C_OutOfRange) (.ref C_NotAlike) = some false)
    (nq_OutOfRange_NotAlike : (Value.ref C_OutOfRange == Value.ref C_NotAlike) = false)
    (hd_NotDivisible : PySem.W.hasDictIn K C_NotDivisible = true)
    (ty_NotDivisible : PySem.W.typeIn K (.ref C_NotDivisible) = some (.type "type"))
    (sb_NotDivisible : PySem.W.subIn K (.ref C_NotDivisible) (.type "BaseException") = some true)
    (su_OutOfRange_NotDivisible : PySem.W.subIn K (.ref C_OutOfRange) (.ref C_NotDivisible) = some false)
    (nq_OutOfRange_NotDivisible : (Value.ref C_OutOfRange == Value.ref C_NotDivisible) = false)
    : ∃ fd : FuncData, (∀ (s : Shared) (v : Value), BindsTo s fd ⟨[v], []⟩ [("_law_script", v)]) ∧ ∀ base : Heap, K.In base → base.Ns mainGlobals mg → FnG l.prog w K mg base 6 fa fd ["_law_script"] (spTop K sp_law) := by
  have e := hfa.symm.trans (PySem.W.mg_of X G a9)
  cases e
  have F0 := fun_mk (st := s_scaled) l0 c0 k0
  have b0 := F0.binds (ps := ["units", "many"]) fun _ _ _ _ _ _ us hl => match us, hl with | [_, _], _ => rfl
  have m0 := PySem.W.mg_of X G a0
  have F1 := fun_mk (st := s_scaled_rules) l1 c1 k1
  have b1 := F1.binds (ps := ["rules", "many"]) fun _ _ _ _ _ _ us hl => match us, hl with | [_, _], _ => rfl
  have m1 := PySem.W.mg_of X G a1
  have F2 := fun_mk (st := s__law_deck) l2 c2 k2
  have b2 := F2.binds (ps := ["_law_script"]) fun _ _ _ _ _ _ us hl => match us, hl with | [_], _ => rfl
  have m2 := PySem.W.mg_of X G a2
  have F3 := fun_mk (st := s__law_draw) l3 c3 k3
  have b3 := F3.binds (ps := ["_law_deck_here", "_law_limit"]) fun _ _ _ _ _ _ us hl => match us, hl with | [_, _], _ => rfl
  have m3 := PySem.W.mg_of X G a3
  have F4 := fun_mk (st := s__law_same) l4 c4 k4
  have b4 := F4.binds (ps := ["_law_value", "_law_due_here"]) fun _ _ _ _ _ _ us hl => match us, hl with | [_, _], _ => rfl
  have m4 := PySem.W.mg_of X G a4
  have F5 := fun_mk (st := s__law_rule) l5 c5 k5
  have b5 := F5.binds (ps := ["_law_deck_here", "_law_n"]) fun _ _ _ _ _ _ us hl => match us, hl with | [_, _], _ => rfl
  have m5 := PySem.W.mg_of X G a5
  have F6 := fun_mk (st := s__law_rules) l6 c6 k6
  have b6 := F6.binds (ps := ["_law_deck_here", "_law_n", "_law_many"]) fun _ _ _ _ _ _ us hl => match us, hl with | [_, _, _], _ => rfl
  have m6 := PySem.W.mg_of X G a6
  have F7 := fun_mk (st := s__law_due) l7 c7 k7
  have b7 := F7.binds (ps := ["_law_rules_here", "_law_many"]) fun _ _ _ _ _ _ us hl => match us, hl with | [_, _], _ => rfl
  have m7 := PySem.W.mg_of X G a7
  have F8 := fun_mk (st := s__law_told) l8 c8 k8
  have b8 := F8.binds (ps := ["_law_rules_here", "_law_many"]) fun _ _ _ _ _ _ us hl => match us, hl with | [_, _], _ => rfl
  have m8 := PySem.W.mg_of X G a8
  have F9 := fun_mk (st := s_law) l9 c9 k9
  have m9 := PySem.W.mg_of X G a9
  have g_LIMIT := PySem.W.mg_of X G y_LIMIT
  have m_abs := PySem.W.mg_none_of X G z_abs
  have m_int := PySem.W.mg_none_of X G z_int
  have m_isinstance := PySem.W.mg_none_of X G z_isinstance
  have m_len := PySem.W.mg_none_of X G z_len
  have m_max := PySem.W.mg_none_of X G z_max
  have m_min := PySem.W.mg_none_of X G z_min
  have m_range := PySem.W.mg_none_of X G z_range
  have m_repr := PySem.W.mg_none_of X G z_repr
  have m_tuple := PySem.W.mg_none_of X G z_tuple
  refine ⟨PySem.W.fnOf "law" "law" (defArgs s_law) (defBody s_law) (defScope s_law) .none kV9 dc9 pm9 an9 cd9 ct9, fun s v => .of_eq rfl, fun base _ _ => ?_⟩
  have d__law_draw := ok__law_draw (P := l.prog) (w := w) (base := base) F3 m3 b3 m_len
  have fnDeck := ok__law_deck (P := l.prog) (w := w) (mg := mg) (base := base) F2 m_abs
  have gC_RingError := PySem.W.mg_of X G ca_RingError
  have gC_OutOfRange := PySem.W.mg_of X G ca_OutOfRange
  have gC_NotAlike := PySem.W.mg_of X G ca_NotAlike
  have gC_NotDivisible := PySem.W.mg_of X G ca_NotDivisible
  have x0_OutOfRange : EX0 K mg "OutOfRange" := ⟨C_OutOfRange, PySem.W.mg_of X G ca_OutOfRange, xo_OutOfRange, od_OutOfRange, sb_OutOfRange, ty_OutOfRange⟩
  have exm_OutOfRange_RingError := exm_own hd_RingError ty_RingError sb_RingError su_OutOfRange_RingError
  have xis_OutOfRange : XIs K C_OutOfRange := ⟨hd_OutOfRange, xa_OutOfRange, xb_OutOfRange, sb_OutOfRange, xc_OutOfRange, xd_OutOfRange, xe_OutOfRange, xf_OutOfRange⟩
  have kit_OutOfRange_OutOfRange := kit_own hd_OutOfRange ty_OutOfRange su_OutOfRange_OutOfRange (fun _ => rfl)
  have kit2_OutOfRange_NotAlike_NotDivisible : PySem.W.kitAny K (.ref C_OutOfRange) [.ref C_NotAlike, .ref C_NotDivisible] = some false := kitAny_cons (kit_own hd_NotAlike ty_NotAlike su_OutOfRange_NotAlike (fun h => by rw [nq_OutOfRange_NotAlike] at h; cases h)) (fun _ => kitAny_cons (kit_own hd_NotDivisible ty_NotDivisible su_OutOfRange_NotDivisible (fun h => by rw [nq_OutOfRange_NotDivisible] at h; cases h)) (fun _ => kitAny_nil) (fun h => by cases h)) (fun h => by cases h)
  have d_scaled := ok_scaled (P := l.prog) (w := w) (base := base) F0 m0 b0 g_LIMIT x0_OutOfRange
  have d_scaled_rules := ok_scaled_rules (P := l.prog) (w := w) (base := base) F1 m1 b1 m_tuple d_scaled
  have d__law_same := ok__law_same (P := l.prog) (w := w) (base := base) F4 m4 b4 m_repr
  have d__law_rule := ok__law_rule (P := l.prog) (w := w) (base := base) F5 m5 b5 m_max m_min d__law_draw
  have d__law_rules := ok__law_rules (P := l.prog) (w := w) (base := base) F6 m6 b6 m_range m_tuple d__law_draw d__law_rule
  have d__law_due := ok__law_due (P := l.prog) (w := w) (base := base) F7 m7 b7 m_max
  have d__law_told := ok__law_told (P := l.prog) (w := w) (base := base) F8 m8 b8 m_int m_isinstance d_scaled_rules gC_RingError gC_OutOfRange exm_OutOfRange_RingError xis_OutOfRange kit_OutOfRange_OutOfRange kit2_OutOfRange_NotAlike_NotDivisible gC_NotAlike gC_NotDivisible
  exact ok_law F9 fnDeck m2 F2.kp b2 m_range m_repr m_tuple d__law_draw d__law_due d__law_rules d__law_same d__law_told
end RW
open PySem PySem.W PyProof.Rows
set_option maxHeartbeats 0 in
theorem PySem.Challenge.cw_ringwindows_k07_rules_scaled_holds : PySem.Challenge.rw_ringwindows_k07_rules_scaled.Holds := by
  w_on; o_law; k_head; (case hw => w_witness2)
  k_fill
  refine DL.walk_end (l := PySem.Challenge.rw_ringwindows_k07_rules_scaled) (n := 63) (k := 6) (x := "_law_script") (sp := fun K => DL.spTop K RW.sp_law) rfl (by decide) rfl ⟨rfl, by decide, by decide⟩ (fun w h Y => PySem.W.kIn_of Y) ?F (fun K H a ns hl hS => RW.want K H a ns hl hS)
  case F =>
    intro w mg fa h KX G hmg
    refine' RW.all_mk KX G hmg ?a0 ?l0 ?c0 ?k0 ?a1 ?l1 ?c1 ?k1 ?a2 ?l2 ?c2 ?k2 ?a3 ?l3 ?c3 ?k3 ?a4 ?l4 ?c4 ?k4 ?a5 ?l5 ?c5 ?k5 ?a6 ?l6 ?c6 ?k6 ?a7 ?l7 ?c7 ?k7 ?a8 ?l8 ?c8 ?k8 ?a9 ?l9 ?c9 ?k9 ?y_LIMIT ?z_abs ?z_int ?z_isinstance ?z_len ?z_max ?z_min ?z_range ?z_repr ?z_tuple ?ca_RingError ?ca_OutOfRange ?ca_NotAlike ?ca_NotDivisible ?hd_OutOfRange ?ty_OutOfRange ?sb_OutOfRange ?xo_OutOfRange ?od_OutOfRange ?hd_RingError ?ty_RingError ?sb_RingError ?su_OutOfRange_RingError ?xa_OutOfRange ?xb_OutOfRange ?xc_OutOfRange ?xd_OutOfRange ?xe_OutOfRange ?xf_OutOfRange ?su_OutOfRange_OutOfRange ?hd_NotAlike ?ty_NotAlike ?sb_NotAlike ?su_OutOfRange_NotAlike ?nq_OutOfRange_NotAlike ?hd_NotDivisible ?ty_NotDivisible ?sb_NotDivisible ?su_OutOfRange_NotDivisible ?nq_OutOfRange_NotDivisible
    (case a0 => k_is); (case l0 => k_is); (case c0 => k_is); (case k0 => k_is); (case a1 => k_is); (case l1 => k_is); (case c1 => k_is); (case k1 => k_is); (case a2 => k_is); (case l2 => k_is); (case c2 => k_is); (case k2 => k_is); (case a3 => k_is); (case l3 => k_is); (case c3 => k_is); (case k3 => k_is); (case a4 => k_is); (case l4 => k_is); (case c4 => k_is); (case k4 => k_is); (case a5 => k_is); (case l5 => k_is); (case c5 => k_is); (case k5 => k_is); (case a6 => k_is); (case l6 => k_is); (case c6 => k_is); (case k6 => k_is); (case a7 => k_is); (case l7 => k_is); (case c7 => k_is); (case k7 => k_is); (case a8 => k_is); (case l8 => k_is); (case c8 => k_is); (case k8 => k_is); (case a9 => k_is); (case l9 => k_is); (case c9 => k_is); (case k9 => k_is); (case y_LIMIT => k_is); (case z_abs => k_is); (case z_int => k_is); (case z_isinstance => k_is); (case z_len => k_is); (case z_max => k_is); (case z_min => k_is); (case z_range => k_is); (case z_repr => k_is); (case z_tuple => k_is); (case ca_RingError => k_is); (case ca_OutOfRange => k_is); (case ca_NotAlike => k_is); (case ca_NotDivisible => k_is); (case hd_OutOfRange => k_is); (case ty_OutOfRange => k_is); (case sb_OutOfRange => k_is); (case xo_OutOfRange => first | kernel_rfl | decide +kernel); (case od_OutOfRange => k_is); (case hd_RingError => k_is); (case ty_RingError => k_is); (case sb_RingError => k_is); (case su_OutOfRange_RingError => k_is); (case xa_OutOfRange => k_is); (case xb_OutOfRange => k_is); (case xc_OutOfRange => k_is); (case xd_OutOfRange => k_is); (case xe_OutOfRange => k_is); (case xf_OutOfRange => k_is); (case su_OutOfRange_OutOfRange => k_is); (case hd_NotAlike => k_is); (case ty_NotAlike => k_is); (case sb_NotAlike => k_is); (case su_OutOfRange_NotAlike => k_is); (case nq_OutOfRange_NotAlike => rfl); (case hd_NotDivisible => k_is); (case ty_NotDivisible => k_is); (case sb_NotDivisible => k_is); (case su_OutOfRange_NotDivisible => k_is); (case nq_OutOfRange_NotDivisible => rfl)
